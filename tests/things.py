"""Things that tests pass where a function judges a thing, and what a call does with them."""

from harmonicdues import errors
from harmonicdues.policies import Policy

FIELDS = {
    "NoPeople": None, "NoThings": None, "NoRow": "at", "NoShares": None, "NoPerson": None,
    "NoDeals": None, "NoNumber": None, "NoDebts": None, "NoPlan": None, "NoRefusals": None,
    "TooMany": "most", "NoBottom": None, "BadBlock": "place", "NoPolicy": None, "NoNeeds": None,
    "NoLot": None, "NoNumbers": None, "BadText": "line", "BadWay": "beat", "NoGame": "part",
    "NotHere": None, "LastOne": None, "HereAlready": None, "Full": None, "NoFraction": None,
    "NoLots": None, "NoLine": None, "NoLines": None,
}

ONE = ("num", 1)
DEPTH = 40


def some_function(thing):
    return thing


def nested(wrap, thing, times):
    for _ in range(times):
        thing = wrap(thing)
    return thing


def deep_things():
    """Things nested as deep as they may be, and wide ones."""
    return [
        nested(lambda x: (x,), (), DEPTH),
        nested(lambda x: [x], [], DEPTH),
        nested(lambda x: {0: x}, {}, DEPTH),
        nested(lambda x: (1, x), 0, DEPTH),
        nested(lambda x: (x, 1), 0, DEPTH),
        nested(lambda x: ("not", x), ONE, DEPTH - 1),
        nested(lambda x: ("+", x, ONE), ONE, DEPTH - 1),
        nested(lambda x: ("-", ONE, x), ONE, DEPTH - 1),
        nested(lambda x: (("if", ONE, x, ()),), (), DEPTH // 2),
        nested(lambda x: (("if", ONE, (), x),), (), DEPTH // 2),
        (0,) * 19000,
        [()] * 19000,
        (2, (0,) * 19000),
        dict.fromkeys(range(19000)),
        "a" * 10000,
    ]


def other_things():
    """Things of all kinds that are no integers and no tuples, each made anew."""
    return [
        None, True, False, "", "a", "1", "\n", "num", "let", "need", b"", b"a", bytearray(b"ab"),
        [], [1], [2, (1, 1)], [2, [1, 1]], ["num", 1], [0, 1], {}, {"at": 1}, {0: 2, 1: (1, 1)},
        range(0), range(2), slice(1, 2), memoryview(b"ab"), Ellipsis, NotImplemented, object(),
        int, str, tuple, dict, ValueError, some_function, lambda: 1, len, [].append,
        (x for x in ()), iter([]), zip(), enumerate([]), reversed([]), map(len, []),
        ValueError("a"), KeyError(1), errors.NoPeople(), errors.NoRow(3), errors.BadBlock((0,)),
        errors.DuesError, errors.NoPeople, Policy, Policy(2, ()), Policy(6, (("weight", ONE),)),
    ]


def tuples():
    """Tuples of all kinds that are neither shares, rows, expressions nor statements."""
    return [
        (1,), (1, 2), (1, 2, 3), (None,), (None, None), ("",), ("", ""), ("a", "b"), ((), ()),
        ([],), ({},), ([], {}), ([1], (1,)), ({}, 1, ()), (b"num", 1), ((("num",), 1),),
        (True, False), (int, len), (errors.NoPeople(), Policy(2, ())), (NotImplemented, Ellipsis),
        (some_function, 1), ("num", "fact", "let"), (10 ** 59, -(10 ** 59)),
    ]


def no_integers():
    return other_things() + tuples() + [()] + deep_things()


def all_kinds():
    """Things of all kinds, integers among them."""
    return no_integers() + [0, 1, 2, -1, 12, 360, 10 ** 59, -(10 ** 59)]


def told_by(call, *given):
    """What a call raises: the class of the error and its field, or None if it raises none."""
    try:
        call(*given)
    except errors.DuesError as error:
        kind = type(error)
        field = FIELDS[kind.__name__]
        return (kind,) if field is None else (kind, getattr(error, field))
    return None


def snapshot(thing):
    """A copy of what is within a list, a tuple or a dict; other things stand for themselves."""
    if type(thing) in (list, tuple):
        return type(thing)(snapshot(item) for item in thing)
    if type(thing) is dict:
        return {key: snapshot(thing[key]) for key in thing}
    return thing
