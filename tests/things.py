"""Things that tests pass where a function judges a thing, and what a call does with them."""

from harmonicdues import errors
from harmonicdues.dealing import Dealer
from harmonicdues.policies import Policy
from harmonicdues.tellers import Teller

FIELDS = {
    "NoPeople": None, "NoThings": None, "NoRow": "at", "NoShares": None, "NoPerson": None,
    "NoDeals": None, "NoNumber": None, "NoDebts": None, "NoPlan": None, "NoRefusals": None,
    "TooMany": "most", "NoBottom": None, "BadBlock": "place", "NoPolicy": None, "NoNeeds": None,
    "NoLot": None, "NoNumbers": None, "BadText": "line", "BadWay": "beat", "NoGame": "part",
    "NotHere": None, "LastOne": None, "HereAlready": None, "Full": None, "NoFraction": None,
    "NoLots": None, "NoLine": None, "NoLines": None,
}

ONE = ("num", 1)
DEPTH = 40


def some_function(thing):
    return thing


def nested(wrap, thing, times):
    for _ in range(times):
        thing = wrap(thing)
    return thing


def deep_things():
    """Things nested as deep as they may be, and wide ones."""
    return [
        nested(lambda x: (x,), (), DEPTH),
        nested(lambda x: [x], [], DEPTH),
        nested(lambda x: {0: x}, {}, DEPTH),
        nested(lambda x: (1, x), 0, DEPTH),
        nested(lambda x: (x, 1), 0, DEPTH),
        nested(lambda x: ("not", x), ONE, DEPTH - 1),
        nested(lambda x: ("+", x, ONE), ONE, DEPTH - 1),
        nested(lambda x: ("-", ONE, x), ONE, DEPTH - 1),
        nested(lambda x: (("if", ONE, x, ()),), (), DEPTH // 2),
        nested(lambda x: (("if", ONE, (), x),), (), DEPTH // 2),
        (0,) * 19000,
        [()] * 19000,
        (2, (0,) * 19000),
        dict.fromkeys(range(19000)),
        "a" * 10000,
    ]


def other_things():
    """Things of all kinds that are no integers and no tuples, each made anew."""
    return [
        None, True, False, "", "a", "1", "\n", "num", "let", "need", b"", b"a", bytearray(b"ab"),
        [], [1], [2, (1, 1)], [2, [1, 1]], ["num", 1], [0, 1], {}, {"at": 1}, {0: 2, 1: (1, 1)},
        range(0), range(2), slice(1, 2), memoryview(b"ab"), Ellipsis, NotImplemented, object(),
        int, str, tuple, dict, ValueError, some_function, lambda: 1, len, [].append,
        (x for x in ()), iter([]), zip(), enumerate([]), reversed([]), map(len, []),
        ValueError("a"), KeyError(1), errors.NoPeople(), errors.NoRow(3), errors.BadBlock((0,)),
        errors.DuesError, errors.NoPeople, Policy, Policy(2, ()), Policy(6, (("weight", ONE),)),
        Dealer, Dealer(2), Teller, Teller(2, Policy(2, ())),
    ]


def tuples():
    """Tuples of all kinds that are neither shares, rows, expressions nor statements."""
    return [
        (1,), (1, 2), (1, 2, 3), (None,), (None, None), ("",), ("", ""), ("a", "b"), ((), ()),
        ([],), ({},), ([], {}), ([1], (1,)), ({}, 1, ()), (b"num", 1), ((("num",), 1),),
        (True, False), (int, len), (errors.NoPeople(), Policy(2, ())), (NotImplemented, Ellipsis),
        (some_function, 1), ("num", "fact", "let"), (10 ** 59, -(10 ** 59)),
    ]


def no_integers():
    return other_things() + tuples() + [()] + deep_things()


def all_kinds():
    """Things of all kinds, integers among them."""
    return no_integers() + [0, 1, 2, -1, 12, 360, 10 ** 59, -(10 ** 59)]


def told_by(call, *given):
    """What a call raises: the class of the error and its field, or None if it raises none."""
    try:
        call(*given)
    except errors.DuesError as error:
        kind = type(error)
        field = FIELDS[kind.__name__]
        return (kind,) if field is None else (kind, getattr(error, field))
    return None


def snapshot(thing):
    """A copy of what is within a list, a tuple or a dict; other things stand for themselves."""
    if type(thing) in (list, tuple):
        return type(thing)(snapshot(item) for item in thing)
    if type(thing) is dict:
        return {key: snapshot(thing[key]) for key in thing}
    return thing


def some_shares(n, m, bottom, chance):
    """Right shares: each of m times bottom parts goes to one who has not all that is let."""
    tops = [0] * n
    for _ in range(m * bottom):
        tops[chance.choice([i for i in range(n) if tops[i] < bottom])] += 1
    return (bottom, tuple(tops))


def some_row(n, m, beats, chance):
    return tuple(some_shares(n, m, chance.randint(1, 12), chance) for _ in range(beats))


def pair_of(fraction):
    return (fraction.numerator, fraction.denominator)


def pairs_of(fractions):
    return tuple(pair_of(fraction) for fraction in fractions)


def no_shares(n):
    """Things of all kinds that are no shares of one thing for n people."""
    return all_kinds() + [
        (2, (2,) + (0,) * n), (n + 1, (1,) * (n + 1)), (n - 1, (1,) * (n - 1)), (1, (1,) * (n + 1)),
        (361, (361,) + (0,) * (n - 1)), (0, (0,) * n), (2, (1,) + (0,) * (n - 1)), (2, (3, -1) + (0,) * (n - 2)),
        (2, (2, 2) + (0,) * (n - 2)), (2, (2, 1) + (0,) * (n - 2)), [2, (2,) + (0,) * (n - 1)],
        (2, [2] + [0] * (n - 1)), (True, (1,) + (0,) * (n - 1)), (1, (True,) + (0,) * (n - 1)), (2,), (),
        (2, (2,) + (0,) * (n - 1), 0), (1, (1,) + (False,) * (n - 1)),
    ]


def no_persons(n):
    """Things of all kinds that are no numbers of one of n people."""
    return no_integers() + [-1, -2, n, n + 1, 10 ** 59, -(10 ** 59)]


def no_rows():
    """Things that are no row of one thing for two people, each with the number that NoRow tells."""
    halves = (2, (1, 1))
    rows = [(thing, -1) for thing in other_things() + [0, 1, [halves], (halves,) * 401, (None,) * 401]]
    rows += [(halves, 0), ((halves, (2, (1, 2))), 1), ((None, halves), 0), ((halves,) * 399 + ([],), 399)]
    rows += [((halves, halves, (2, (2, 2))), 2), (((3, (1, 1, 1)),), 0), ((halves, [2, (1, 1)], None), 1)]
    return rows + [(thing, 0) for thing in tuples()]


def no_people():
    return [0, 13, -1, 14, 10 ** 59, -(10 ** 59)] + no_integers()


def some_name(chance):
    return chance.choice(("a", "b", "zz", "abcdefgh", "num", "fact", "lets"))


def some_number(chance):
    most = 10 ** 18
    if chance.random() < 0.1:
        return chance.choice((most, -most, chance.randint(-most, most)))
    return chance.randint(-3, 12)


def some_simple(chance):
    head = chance.choice(("num", "num", "fact", "fact", "let", "keep", "own"))
    if head == "num":
        return (head, some_number(chance))
    if head == "fact":
        return (head, chance.choice(("beat", "person", "need", "things", "people")))
    return (head, some_name(chance))


SIGNS = ("+", "-", "*", "/", "mod", "min", "max", "<", "=", "and", "or")


def some_expression(chance, depth=6, parts=30):
    """An expression of this depth and of so many parts at most."""
    if depth == 1 or parts < 3 or chance.random() < 0.3:
        return some_simple(chance)
    if chance.random() < 0.15:
        return ("not", some_expression(chance, depth - 1, parts - 1))
    half = (parts - 1) // 2
    sign = chance.choice(SIGNS)
    return (sign, some_expression(chance, depth - 1, half), some_expression(chance, depth - 1, half))


def some_block(chance, depth=4, most=14):
    """A block of at most so many statements, each if of which has blocks of fewer."""
    block = []
    while most > 0 and chance.random() < 0.8:
        most -= 1
        expression = some_expression(chance, chance.randint(1, 6))
        kind = chance.choice(("let", "keep", "own", "weight", "weight", "weight", "cap", "if", "if"))
        if kind in ("let", "keep", "own"):
            block.append((kind, some_name(chance), expression))
        elif kind != "if":
            block.append((kind, expression))
        elif depth > 1:
            first = some_block(chance, depth - 1, most // 3)
            block.append(("if", expression, first, some_block(chance, depth - 1, most // 3)))
            most -= 2 * (most // 3)
    return tuple(block)


def some_policy(chance):
    bottom = chance.choice((1, 2, 6, 7, 60, 360, chance.randint(1, 360)))
    weight = ("weight", ("+", ("fact", chance.choice(("person", "things", "beat"))), ("num", chance.randint(0, 9))))
    cap = ("cap", ("-", ("num", chance.randint(0, bottom)), ("fact", chance.choice(("person", "things", "beat")))))
    ahead = chance.choice(((), (weight,), (weight,), (cap, weight)))
    return Policy(bottom, ahead + some_block(chance))


def otherwise(thing):
    """Things that are as this one but in one place, each made anew."""
    if type(thing) in (tuple, list):
        kind = type(thing)
        yield {tuple: list, list: tuple}[kind](thing)
        yield thing + kind((None,))
        yield thing[:1] + thing
        for at in range(len(thing)):
            yield thing[:at] + thing[at + 1:]
            for item in otherwise(thing[at]):
                yield thing[:at] + kind((item,)) + thing[at + 1:]
    elif type(thing) is dict:
        yield list(thing.items())
        for key in thing:
            yield {other: thing[other] for other in thing if other != key}
            for item in otherwise(thing[key]):
                yield {**thing, key: item}
    elif type(thing) is int:
        yield from (thing + 1, thing - 1, -thing - 3, None, str(thing), (thing,), [thing], {thing: thing})
        if thing in (0, 1):
            yield bool(thing)
    elif type(thing) is str:
        yield from (thing + "s", thing[:-1], thing.upper(), " " + thing, None, (thing,), [thing], thing.encode())
    elif thing is None:
        yield from (0, False, (), "", "None", 400)


def is_same(one, other):
    """Whether two things are equal and of the same kinds throughout."""
    if type(one) is not type(other):
        return False
    if type(one) in (tuple, list):
        return len(one) == len(other) and all(map(is_same, one, other))
    if type(one) is dict:
        return one.keys() == other.keys() and all(is_same(one[key], other[key]) for key in one)
    return one == other
