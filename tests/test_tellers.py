"""Point 2.3: tellers, which run policies beat by beat and tell shares."""

import unittest
from fractions import Fraction
from random import Random

from harmonicdues import tellers as module
from harmonicdues.errors import NoLot, NoNeeds, NoNumbers, NoPeople, NoPerson, NoPolicy
from harmonicdues.policies import Policy
from harmonicdues.shares import is_shares
from harmonicdues.tellers import Teller
from tests.things import (
    SIGNS, all_kinds, deep_things, no_integers, no_people, no_persons, other_things, snapshot, some_expression,
    some_policy, told_by, tuples,
)

MOST = 10 ** 18
ONE = ("num", 1)
BY_NOUGHT = ("/", ONE, ("num", 0))
ALIKE = Policy(6, (("weight", ONE),))


def num(k):
    return ("num", k)


def fact(name):
    return ("fact", name)


def add(a, b):
    return ("+", a, b)


def equal(a, b):
    return ("=", a, b)


def chosen(a, *block):
    return ("if", a, block, ())


def for_person(person, *block):
    return chosen(equal(fact("person"), num(person)), *block)


def by_person(kind, numbers):
    """Statements that give each person its own weight or cap."""
    return tuple(for_person(person, (kind, num(k))) for person, k in enumerate(numbers))


class Wrong(Exception):
    pass


OF_TWO = {
    "+": lambda a, b: a + b, "-": lambda a, b: a - b, "*": lambda a, b: a * b, "/": lambda a, b: a // b,
    "mod": lambda a, b: a - b * (a // b), "min": lambda a, b: sorted((a, b))[0], "max": lambda a, b: sorted((a, b))[1],
    "<": lambda a, b: 1 if a < b else 0, "=": lambda a, b: 1 if a == b else 0,
    "and": lambda a, b: 0 if 0 in (a, b) else 1, "or": lambda a, b: 0 if (a, b) == (0, 0) else 1,
}


class Reckoned:
    """A teller reckoned in another way: names in one dict, parts by Python's own fractions."""

    def __init__(self, n, policy):
        self.n, self.policy, self.beat, self.held = n, policy, 0, {}

    def place(self, kind, name, person):
        return (kind, name, person if kind == "own" else None)

    def reckon(self, a, person, facts, held):
        kind = a[0]
        if kind == "num":
            told = a[1]
        elif kind == "fact":
            told = facts[a[1]]
        elif kind in ("let", "keep", "own"):
            told = held.get(self.place(kind, a[1], person), 0)
        elif kind == "not":
            told = 1 if self.reckon(a[1], person, facts, held) == 0 else 0
        else:
            one, other = [self.reckon(part, person, facts, held) for part in a[1:]]
            if kind in ("/", "mod") and other == 0:
                raise Wrong
            told = OF_TWO[kind](one, other)
        if not -MOST <= told <= MOST:
            raise Wrong
        return told

    def run(self, block, person, facts, held, told):
        for statement in block:
            kind = statement[0]
            if kind == "if":
                yes = self.reckon(statement[1], person, facts, held)
                self.run(statement[2] if yes else statement[3], person, facts, held, told)
            elif kind in ("weight", "cap"):
                told[kind] = self.reckon(statement[1], person, facts, held)
            else:
                held[self.place(kind, statement[1], person)] = self.reckon(statement[2], person, facts, held)

    def told_for(self, person, facts):
        held, told = dict(self.held), {"weight": 0, "cap": self.policy.bottom}
        try:
            self.run(self.policy.block, person, facts, held, told)
        except Wrong:
            return (0, self.policy.bottom)
        self.held = {place: k for place, k in held.items() if place[0] != "let" and k != 0}
        return (told["weight"], told["cap"])

    def shares(self, needs, here, things):
        told = {}
        for person in sorted(here):
            facts = {
                "beat": self.beat, "person": person, "need": needs[person], "things": things[person],
                "people": len(here),
            }
            told[person] = self.told_for(person, facts)
        self.beat += 1
        return (self.policy.bottom, parts_of(self.n, self.policy.bottom, told))

    def kept(self):
        return {name: k for (kind, name, _), k in self.held.items() if kind == "keep"}

    def owned(self, person):
        return {name: k for (kind, name, whose), k in self.held.items() if kind == "own" and whose == person}

    def turned(self, policy):
        other = Reckoned(self.n, policy)
        other.beat, other.held = self.beat, dict(self.held)
        return other


def parts_of(n, bottom, told):
    """The parts that each one gets, told being a dict from those here to their weights and caps."""
    parts = [0] * n
    for _ in range(bottom):
        ranks = [
            (Fraction(parts[person] + 1, weight), person)
            for person, (weight, cap) in told.items() if weight > 0 and parts[person] < cap
        ]
        if not ranks:
            ranks = [(parts[person], person) for person in told]
        parts[min(ranks)[1]] += 1
    return tuple(parts)


def everyone(n):
    return tuple(range(n))


def beat_of(teller, n, needs=None, here=None, things=None):
    """The tops that a teller tells; everyone is here, and needs and has got nothing, if not told."""
    told = teller.shares(needs or (0,) * n, here or everyone(n), things or (0,) * n)
    return told[1]


def tops(n, bottom, *block):
    """The tops that a new teller tells first."""
    return beat_of(Teller(n, Policy(bottom, block)), n)


class TellerTest(unittest.TestCase):
    def same(self, teller, reckoned):
        self.assertEqual(teller.kept(), reckoned.kept())
        for person in range(reckoned.n):
            self.assertEqual(teller.owned(person), reckoned.owned(person))

    def follow(self, teller, reckoned, beats, chance):
        """Compare so many beats of a teller."""
        n = reckoned.n
        for _ in range(beats):
            needs = tuple(chance.choice((0, 1, chance.randint(0, 9), 10 ** 9)) for _ in range(n))
            here = tuple(sorted(chance.sample(range(n), chance.randint(1, n))))
            things = tuple(chance.randint(0, 5) for _ in range(n))
            told = teller.shares(needs, here, things)
            self.assertEqual(told, reckoned.shares(needs, here, things))
            self.assertIs(is_shares(n, 1, told), True)
            self.same(teller, reckoned)


class Interface(unittest.TestCase):
    def test_the_class_stands_in_its_module(self):
        self.assertEqual(module.Teller.__module__, "harmonicdues.tellers")
        for name in ("__init__", "shares", "turned", "copy", "kept", "owned"):
            self.assertIn(name, vars(Teller))


class Made(TellerTest):
    def test_one_to_twelve_people(self):
        for n in range(1, 13):
            teller = Teller(n, ALIKE)
            self.assertIs(type(teller), Teller)
            self.assertEqual(teller.kept(), {})
            self.assertEqual([teller.owned(person) for person in range(n)], [{}] * n)

    def test_no_people(self):
        for n in no_people():
            for policy in (ALIKE, None, 0):
                self.assertEqual(told_by(Teller, n, policy), (NoPeople,))

    def test_no_policy(self):
        things = [thing for thing in all_kinds() if type(thing) is not Policy]
        for thing in things + [(6, (("weight", ONE),)), [6, ()], Policy, {"bottom": 6, "block": ()}]:
            self.assertEqual(told_by(Teller, 3, thing), (NoPolicy,))
            self.assertEqual(told_by(Teller(3, ALIKE).turned, thing), (NoPolicy,))

    def test_equal_to_itself_alone(self):
        teller = Teller(2, ALIKE)
        self.assertTrue(teller == teller)
        self.assertFalse(teller != teller)
        for thing in [Teller(2, ALIKE), teller.copy(), teller.turned(ALIKE)] + other_things() + [0, (), (2, ALIKE)]:
            self.assertFalse(teller == thing)
            self.assertTrue(teller != thing)


class Numbers(TellerTest):
    """What expressions tell, read from what keep holds behind one beat of one person."""

    def value(self, a):
        """The number of an expression, None if it is wrong."""
        teller = Teller(1, Policy(1, (("keep", "ran", ONE), ("keep", "told", a))))
        teller.shares((7,), (0,), (3,))
        kept = teller.kept()
        return kept.get("told", 0) if "ran" in kept else None

    def tells(self, a, told):
        with self.subTest(a=a):
            self.assertEqual(self.value(a), told)

    def test_numbers_and_facts(self):
        for k in (0, 1, -1, 360, MOST, -MOST):
            self.tells(num(k), k)
        for name, told in (("beat", 0), ("person", 0), ("need", 7), ("things", 3), ("people", 1)):
            self.tells(fact(name), told)

    def test_names_without_a_number(self):
        for kind in ("let", "keep", "own"):
            self.tells((kind, "a"), 0)

    def test_signs(self):
        for a in (-7, -2, -1, 0, 1, 2, 3, 7):
            for b in (-3, -2, -1, 0, 1, 2, 3, 7):
                for sign, told in (
                    ("+", a + b), ("-", a - b), ("*", a * b), ("min", min(a, b)), ("max", max(a, b)), ("<", int(a < b)),
                    ("=", int(a == b)), ("and", int(bool(a and b))), ("or", int(bool(a or b))),
                    ("/", a // b if b else None), ("mod", a % b if b else None),
                ):
                    self.tells((sign, num(a), num(b)), told)
            self.tells(("not", num(a)), int(a == 0))

    def test_floor_division(self):
        self.tells(("/", num(7), num(2)), 3)
        self.tells(("/", num(-7), num(2)), -4)
        self.tells(("/", num(7), num(-2)), -4)
        self.tells(("/", num(-7), num(-2)), 3)
        self.tells(("mod", num(7), num(2)), 1)
        self.tells(("mod", num(-7), num(2)), 1)
        self.tells(("mod", num(7), num(-2)), -1)
        self.tells(("mod", num(-7), num(-2)), -1)
        self.tells(("/", num(MOST), num(3)), MOST // 3)
        self.tells(("/", num(-MOST), num(3)), -333333333333333334)
        self.tells(("/", num(1 - MOST), num(MOST)), -1)

    def test_what_is_no_flag(self):
        self.tells(add(("<", ONE, num(2)), add(equal(ONE, ONE), ("not", num(0)))), 3)
        self.tells(add(("and", num(5), num(-5)), ("or", num(0), num(7))), 2)
        flags = (("<", ONE, num(2)), equal(ONE, ONE), ("and", num(5), num(6)), ("or", num(5), num(6)), ("not", num(0)))
        for a in flags:
            self.assertIs(type(self.value(a)), int)

    def test_the_greatest_numbers(self):
        for sign, a, b, told in (
            ("+", MOST, 0, MOST), ("+", MOST - 1, 1, MOST), ("+", MOST, 1, None), ("-", -MOST, 1, None),
            ("-", 1 - MOST, 1, -MOST), ("+", -MOST, -1, None), ("*", MOST, 1, MOST), ("*", MOST, -1, -MOST),
            ("*", 10 ** 9, 10 ** 9, MOST), ("*", 10 ** 9, 10 ** 9 + 1, None), ("*", -(10 ** 9), 10 ** 9, -MOST),
            ("*", -(10 ** 9) - 1, 10 ** 9, None), ("*", MOST, MOST, None), ("*", MOST, 0, 0), ("/", -MOST, -1, MOST),
            ("min", MOST, -MOST, -MOST), ("max", MOST, -MOST, MOST), ("-", MOST, -MOST, None), ("<", -MOST, MOST, 1),
        ):
            self.tells((sign, num(a), num(b)), told)

    def test_wrong_within(self):
        beyond = add(num(MOST), ONE)
        for wrong in (BY_NOUGHT, ("mod", ONE, num(0)), beyond, ("-", num(-MOST), ONE)):
            self.tells(wrong, None)
            self.tells(("not", wrong), None)
            for sign in SIGNS:
                self.tells((sign, wrong, ONE), None)
                self.tells((sign, ONE, wrong), None)
                self.tells((sign, num(0), wrong), None)
                self.tells((sign, num(0), (sign, wrong, num(0))), None)
        self.tells(("-", beyond, num(5)), None)
        self.tells(("/", num(0), num(0)), None)
        self.tells(("mod", num(0), num(0)), None)

    def test_both_sides_are_reckoned(self):
        self.tells(("and", num(0), BY_NOUGHT), None)
        self.tells(("or", ONE, BY_NOUGHT), None)
        self.tells(("and", BY_NOUGHT, num(0)), None)
        self.tells(("or", BY_NOUGHT, ONE), None)
        self.tells(("*", num(0), BY_NOUGHT), None)

    def test_random_ones(self):
        chance = Random(1)
        facts = {"beat": 0, "person": 0, "need": 7, "things": 3, "people": 1}
        told = []
        for _ in range(1000):
            a = some_expression(chance)
            try:
                told.append(Reckoned(1, ALIKE).reckon(a, 0, facts, {}))
            except Wrong:
                told.append(None)
            self.tells(a, told[-1])
        self.assertIn(None, told)
        self.assertGreater(len(set(told)), 25)


class Facts(TellerTest):
    def heard(self, n, name, *beats):
        """What each one of here is told by a fact in the last of the beats."""
        teller = Teller(n, Policy(6, (("own", "a", add(fact(name), ONE)), ("weight", ONE))))
        for given in beats:
            teller.shares(*given)
        return [teller.owned(person).get("a", 0) - 1 for person in range(n)]

    def test_beats_from_nought_on(self):
        teller = Teller(2, Policy(6, (("keep", "a", fact("beat")),)))
        for beat in range(300):
            teller.shares((0, 0), (beat % 2,), (0, 0))
            self.assertEqual(teller.kept(), {"a": beat} if beat else {})

    def test_people_needs_and_things(self):
        given = ((5, 0, 10 ** 9), (0, 1, 2), (3, 10 ** 9, 0))
        self.assertEqual(self.heard(3, "person", given), [0, 1, 2])
        self.assertEqual(self.heard(3, "need", given), [5, 0, 10 ** 9])
        self.assertEqual(self.heard(3, "things", given), [3, 10 ** 9, 0])
        self.assertEqual(self.heard(3, "people", given), [3, 3, 3])
        self.assertEqual(self.heard(3, "beat", given), [0, 0, 0])

    def test_only_those_here(self):
        given = ((5, 6, 7, 8), (1, 3), (1, 2, 3, 4))
        self.assertEqual(self.heard(4, "person", given), [-1, 1, -1, 3])
        self.assertEqual(self.heard(4, "need", given), [-1, 6, -1, 8])
        self.assertEqual(self.heard(4, "things", given), [-1, 2, -1, 4])
        self.assertEqual(self.heard(4, "people", given), [-1, 2, -1, 2])

    def test_facts_of_the_newest_beat(self):
        one, other = ((1, 2), (0, 1), (0, 0)), ((8, 9), (1,), (4, 5))
        self.assertEqual(self.heard(2, "need", one, other), [1, 9])
        self.assertEqual(self.heard(2, "things", one, other), [0, 5])
        self.assertEqual(self.heard(2, "people", one, other), [2, 1])
        self.assertEqual(self.heard(2, "beat", one, other), [0, 1])

    def test_people_of_all_numbers(self):
        for n in range(1, 13):
            given = (everyone(n), everyone(n), everyone(n)[::-1])
            self.assertEqual(self.heard(n, "person", given), list(range(n)))
            self.assertEqual(self.heard(n, "need", given), list(range(n)))
            self.assertEqual(self.heard(n, "things", given), list(range(n))[::-1])
            self.assertEqual(self.heard(n, "people", given), [n] * n)


class Stores(TellerTest):
    def test_let_is_of_one_run(self):
        block = (("keep", "read", add(("keep", "read"), ("let", "a"))), ("let", "a", num(5)))
        teller = Teller(3, Policy(6, block))
        for _ in range(3):
            beat_of(teller, 3)
            self.assertEqual(teller.kept(), {})

    def test_let_within_a_run(self):
        block = (
            ("let", "a", num(5)), ("keep", "b", ("let", "a")), ("let", "a", add(("let", "a"), ONE)),
            chosen(ONE, ("let", "a", ("*", ("let", "a"), num(2)))), ("keep", "c", ("let", "a")),
        )
        teller = Teller(2, Policy(6, block))
        beat_of(teller, 2)
        self.assertEqual(teller.kept(), {"b": 5, "c": 12})
        self.assertEqual([teller.owned(0), teller.owned(1)], [{}, {}])

    def test_keep_goes_from_run_to_run_and_from_person_to_person(self):
        teller = Teller(3, Policy(6, (("keep", "a", add(("keep", "a"), ONE)), ("own", "got", ("keep", "a")))))
        beat_of(teller, 3)
        self.assertEqual(teller.kept(), {"a": 3})
        self.assertEqual([teller.owned(person) for person in range(3)], [{"got": 1}, {"got": 2}, {"got": 3}])
        beat_of(teller, 3, here=(0, 2))
        self.assertEqual(teller.kept(), {"a": 5})
        self.assertEqual([teller.owned(person) for person in range(3)], [{"got": 4}, {"got": 2}, {"got": 5}])

    def test_people_of_here_come_in_ascending_order(self):
        last = ("keep", "last", add(("*", ("keep", "last"), num(13)), add(fact("person"), ONE)))
        for n in range(1, 13):
            teller = Teller(n, Policy(6, (last,)))
            beat_of(teller, n)
            told = 0
            for person in range(n):
                told = told * 13 + person + 1
            self.assertEqual(teller.kept(), {"last": told})

    def test_own_is_of_each_person(self):
        block = (("own", "a", add(("own", "a"), fact("need"))), ("weight", ("own", "a")))
        teller = Teller(3, Policy(6, block))
        self.assertEqual(teller.shares((1, 2, 3), (0, 1, 2), (0, 0, 0)), (6, (1, 2, 3)))
        self.assertEqual(teller.shares((2, 1, 0), (0, 1, 2), (0, 0, 0)), (6, (2, 2, 2)))
        self.assertEqual(teller.shares((9, 0, 3), (0, 2), (0, 0, 0)), (6, (4, 0, 2)))
        self.assertEqual([teller.owned(person) for person in range(3)], [{"a": 12}, {"a": 3}, {"a": 6}])
        self.assertEqual(teller.kept(), {})

    def test_the_three_kinds_of_names_stand_apart(self):
        block = (
            ("let", "a", ONE), ("keep", "a", num(2)), ("own", "a", num(3)),
            ("keep", "sum", add(("let", "a"), add(("*", num(10), ("keep", "a")), ("*", num(100), ("own", "a"))))),
        )
        teller = Teller(1, Policy(6, block))
        beat_of(teller, 1)
        self.assertEqual(teller.kept(), {"a": 2, "sum": 321})
        self.assertEqual(teller.owned(0), {"a": 3})

    def test_names_that_are_nought_are_left_out(self):
        block = (
            ("keep", "a", num(0)), ("own", "b", num(0)), ("keep", "c", ("-", ONE, fact("beat"))),
            ("own", "d", ("-", fact("beat"), ONE)), ("keep", "e", num(-5)), ("own", "f", num(-6)),
        )
        teller = Teller(2, Policy(6, block))
        beat_of(teller, 2, here=(1,))
        self.assertEqual((teller.kept(), teller.owned(0), teller.owned(1)), ({"c": 1, "e": -5}, {}, {"d": -1, "f": -6}))
        beat_of(teller, 2, here=(1,))
        self.assertEqual((teller.kept(), teller.owned(0), teller.owned(1)), ({"e": -5}, {}, {"f": -6}))
        beat_of(teller, 2, here=(0,))
        told = (teller.kept(), teller.owned(0), teller.owned(1))
        self.assertEqual(told, ({"c": -1, "e": -5}, {"d": 1, "f": -6}, {"f": -6}))

    def test_dicts_are_new_each_time_and_may_be_changed(self):
        teller = Teller(2, Policy(6, (("keep", "a", add(("keep", "a"), ONE)), ("own", "b", add(("own", "b"), ONE)))))
        beat_of(teller, 2)
        for read in (teller.kept, lambda: teller.owned(0), lambda: teller.owned(1)):
            one, other = read(), read()
            self.assertIs(type(one), dict)
            self.assertIsNot(one, other)
            ahead = dict(other)
            for name in ahead:
                one[name] = 77
            one["more"] = 5
            one.pop("a", None)
            self.assertEqual((other, read()), (ahead, ahead))
        beat_of(teller, 2)
        self.assertEqual((teller.kept(), teller.owned(0), teller.owned(1)), ({"a": 4}, {"b": 2}, {"b": 2}))
        empty = Teller(2, ALIKE)
        empty.kept()["a"] = 1
        empty.owned(1)["a"] = 1
        self.assertEqual((empty.kept(), empty.owned(1)), ({}, {}))

    def test_what_was_told_stays_as_it_was(self):
        teller = Teller(1, Policy(6, (("keep", "a", add(("keep", "a"), ONE)), ("own", "b", ("keep", "a")))))
        beat_of(teller, 1)
        kept, owned = teller.kept(), teller.owned(0)
        beat_of(teller, 1)
        self.assertEqual((kept, owned), ({"a": 1}, {"b": 1}))
        self.assertEqual((teller.kept(), teller.owned(0)), ({"a": 2}, {"b": 2}))

    def test_ifs(self):
        block = (
            ("if", fact("need"), (("keep", "yes", add(("keep", "yes"), ONE)),), (("keep", "no", fact("person")),)),
            chosen(("-", fact("need"), num(2)), ("own", "a", ONE), chosen(fact("things"), ("own", "b", ONE))),
        )
        teller = Teller(3, Policy(6, block))
        teller.shares((0, 2, 1), (0, 1, 2), (1, 1, 1))
        self.assertEqual(teller.kept(), {"yes": 2})
        self.assertEqual([teller.owned(person) for person in range(3)], [{"a": 1, "b": 1}, {}, {"a": 1, "b": 1}])
        teller.shares((0, 0, 0), (0, 1), (0, 0, 0))
        self.assertEqual(teller.kept(), {"yes": 2, "no": 1})

    def test_any_number_but_nought_is_yes(self):
        blocks = (by_person("weight", (1, 2)), by_person("weight", (5, 1)))
        for k in (1, -1, 2, MOST, -MOST):
            self.assertEqual(tops(2, 6, ("if", num(k), *blocks)), (2, 4))
        self.assertEqual(tops(2, 6, ("if", num(0), *blocks)), (5, 1))

    def test_no_person(self):
        for n in (1, 2, 12):
            teller = Teller(n, ALIKE)
            for person in no_persons(n):
                self.assertEqual(told_by(teller.owned, person), (NoPerson,))
            for person in range(n):
                self.assertIsNone(told_by(teller.owned, person))


class Weights(TellerTest):
    def test_the_example_of_the_document(self):
        policy = Policy(6, (
            ("weight", add(fact("need"), ONE)), ("if", equal(fact("person"), num(0)), (("cap", num(2)),), ()),
        ))
        self.assertEqual(Teller(3, policy).shares((5, 2, 0), (0, 1, 2), (0, 0, 0)), (6, (2, 3, 1)))

    def test_what_the_other_examples_tell(self):
        teller = Teller(2, Policy(2, (("weight", ONE),)))
        for _ in range(3):
            self.assertEqual(teller.shares((0, 0), (0, 1), (0, 0)), (2, (1, 1)))
        self.assertEqual(teller.shares((0, 0), (0,), (0, 0)), (2, (2, 0)))

    def test_weights_alike(self):
        for n in range(1, 13):
            for bottom in (1, 2, 5, 12, 60, 359, 360):
                told = tuple(bottom // n + (1 if person < bottom % n else 0) for person in range(n))
                self.assertEqual(tops(n, bottom, ("weight", ONE)), told)
                self.assertEqual(tops(n, bottom, ("weight", num(MOST))), told)

    def test_all_bottoms(self):
        for bottom in range(1, 361):
            teller = Teller(3, Policy(bottom, by_person("weight", (1, 2, 3))))
            told = teller.shares((0, 0, 0), (0, 1, 2), (0, 0, 0))
            self.assertEqual(told[0], bottom)
            self.assertEqual(sum(told[1]), bottom)
            for weight, top in zip((1, 2, 3), told[1]):
                self.assertLess(abs(6 * top - weight * bottom), 6)

    def test_parts_one_behind_another(self):
        # With 1, 2 and 3 the parts go to 2, 1, 2, 0, 1, 2: those with alike quotients by their numbers.
        parts = [tops(3, bottom, *by_person("weight", (1, 2, 3))) for bottom in range(1, 7)]
        self.assertEqual(parts, [(0, 0, 1), (0, 1, 1), (0, 1, 2), (1, 1, 2), (1, 2, 2), (1, 2, 3)])
        parts = [tops(3, bottom, *by_person("weight", (2, 2, 1))) for bottom in range(1, 7)]
        self.assertEqual(parts, [(1, 0, 0), (1, 1, 0), (2, 1, 0), (2, 2, 0), (2, 2, 1), (3, 2, 1)])
        parts = [tops(2, bottom, *by_person("weight", (2, 4))) for bottom in range(1, 7)]
        self.assertEqual(parts, [(0, 1), (1, 1), (1, 2), (1, 3), (2, 3), (2, 4)])

    def test_great_weights(self):
        self.assertEqual(tops(2, 1, *by_person("weight", (MOST - 1, MOST))), (0, 1))
        self.assertEqual(tops(2, 1, *by_person("weight", (MOST, MOST - 1))), (1, 0))
        self.assertEqual(tops(2, 1, *by_person("weight", (MOST, MOST))), (1, 0))
        self.assertEqual(tops(2, 360, *by_person("weight", (1, MOST))), (0, 360))
        self.assertEqual(tops(3, 360, *by_person("weight", (MOST // 2, MOST // 3, MOST // 7))), (185, 123, 52))
        self.assertEqual(tops(2, 4, *by_person("weight", (MOST // 3, MOST - MOST // 3))), (1, 3))

    def test_no_weight(self):
        self.assertEqual(tops(3, 6, *by_person("weight", (0, 1, 0))), (0, 6, 0))
        self.assertEqual(tops(3, 6, *by_person("weight", (1, 0, 2))), (2, 0, 4))
        self.assertEqual(tops(2, 5, for_person(1, ("weight", ONE))), (0, 5))

    def test_all_weights_nought(self):
        for n in range(1, 13):
            for bottom in (1, 5, 12, 360):
                told = tuple(bottom // n + (1 if person < bottom % n else 0) for person in range(n))
                self.assertEqual(tops(n, bottom), told)
                self.assertEqual(tops(n, bottom, ("weight", num(0))), told)
                self.assertEqual(tops(n, bottom, ("weight", num(-5))), told)
                self.assertEqual(tops(n, bottom, ("weight", num(0)), ("cap", num(0))), told)
                self.assertEqual(tops(n, bottom, ("weight", BY_NOUGHT)), told)

    def test_weights_below_nought(self):
        for k in (-1, -2, -MOST):
            self.assertEqual(tops(3, 6, *by_person("weight", (k, 1, k))), (0, 6, 0))
            self.assertEqual(tops(3, 6, *by_person("weight", (2, k, 1))), (4, 0, 2))

    def test_caps(self):
        weights = by_person("weight", (5, 3, 1))
        self.assertEqual(tops(3, 9, *weights), (5, 3, 1))
        self.assertEqual(tops(3, 9, *weights, *by_person("cap", (2, 9, 9))), (2, 6, 1))
        self.assertEqual(tops(3, 9, *weights, *by_person("cap", (2, 2, 9))), (2, 2, 5))
        self.assertEqual(tops(3, 9, *weights, *by_person("cap", (0, 2, 9))), (0, 2, 7))
        self.assertEqual(tops(3, 9, *weights, *by_person("cap", (9, 3, 0))), (6, 3, 0))
        self.assertEqual(tops(3, 9, *weights, *by_person("cap", (5, 3, 1))), (5, 3, 1))

    def test_the_cap_of_one_alone(self):
        self.assertEqual(tops(3, 9, ("weight", ONE), for_person(1, ("cap", ONE))), (4, 1, 4))
        self.assertEqual(tops(3, 9, ("weight", ONE), for_person(0, ("cap", num(8)))), (3, 3, 3))

    def test_caps_below_nought_and_above_the_bottom(self):
        weights = by_person("weight", (1, 1, 1))
        for k in (-1, -9, -10, -MOST, 0):
            self.assertEqual(tops(3, 9, *weights, for_person(0, ("cap", num(k)))), (0, 5, 4))
        for k in (9, 10, 18, 361, MOST):
            self.assertEqual(tops(3, 9, *weights, for_person(0, ("cap", num(k)))), (3, 3, 3))
            self.assertEqual(tops(3, 9, for_person(2, ("weight", ONE), ("cap", num(k)))), (0, 0, 9))
        for k in (1, 2, 4, 5, 8):
            self.assertEqual(tops(3, 9, for_person(2, ("weight", ONE), ("cap", num(k))))[2], max(k, 3))

    def test_all_caps_reached(self):
        # The rest goes to those of here with the fewest parts, whatever their caps and weights are.
        weights = by_person("weight", (5, 3, 1))
        self.assertEqual(tops(3, 9, *weights, *by_person("cap", (1, 1, 1))), (3, 3, 3))
        self.assertEqual(tops(3, 10, *weights, *by_person("cap", (4, 1, 1))), (4, 3, 3))
        self.assertEqual(tops(3, 11, *weights, *by_person("cap", (0, 2, 4))), (4, 3, 4))
        self.assertEqual(tops(3, 7, *weights, *by_person("cap", (6, 0, 0))), (6, 1, 0))
        self.assertEqual(tops(3, 8, *weights, *by_person("cap", (6, 0, 0))), (6, 1, 1))
        self.assertEqual(tops(3, 9, *weights, ("cap", num(0))), (3, 3, 3))
        self.assertEqual(tops(3, 9, for_person(2, ("weight", ONE), ("cap", num(4)))), (3, 2, 4))
        self.assertEqual(tops(3, 9, *by_person("weight", (-1, 1, 0)), ("cap", num(7))), (1, 7, 1))

    def test_the_newest_weight_and_cap_hold(self):
        self.assertEqual(tops(2, 6, ("weight", num(9)), *by_person("weight", (1, 2))), (2, 4))
        self.assertEqual(tops(2, 6, ("weight", ONE), ("cap", ONE), ("cap", num(6))), (3, 3))
        self.assertEqual(tops(2, 6, ("weight", ONE), ("cap", num(6)), for_person(0, ("cap", ONE))), (1, 5))
        self.assertEqual(tops(2, 6, ("weight", num(-4)), for_person(1, ("weight", num(4)))), (0, 6))

    def test_weight_and_cap_are_not_kept_from_run_to_run(self):
        block = (chosen(equal(fact("beat"), num(0)), for_person(1, ("weight", num(5)), ("cap", num(4)))),)
        teller = Teller(2, Policy(6, block))
        self.assertEqual(beat_of(teller, 2), (2, 4))
        self.assertEqual(beat_of(teller, 2), (3, 3))
        block = (for_person(0, ("weight", num(5)), ("cap", num(2))), for_person(1, ("weight", ("let", "weights"))))
        self.assertEqual(tops(3, 6, *block), (2, 2, 2))

    def test_people_away(self):
        teller = Teller(5, Policy(12, by_person("weight", (1, 2, 3, 4, 5))))
        self.assertEqual(beat_of(teller, 5, here=(0, 1, 2)), (2, 4, 6, 0, 0))
        self.assertEqual(beat_of(teller, 5, here=(2, 4)), (0, 0, 4, 0, 8))
        self.assertEqual(beat_of(teller, 5, here=(0, 2, 3)), (1, 0, 5, 6, 0))
        self.assertEqual(beat_of(Teller(5, Policy(12, ())), 5, here=(1, 2, 4)), (0, 4, 4, 0, 4))
        teller = Teller(5, Policy(7, (("cap", ONE), ("weight", ONE))))
        self.assertEqual(beat_of(teller, 5, here=(1, 4)), (0, 4, 0, 0, 3))

    def test_one_alone(self):
        for n in range(1, 13):
            for person in range(n):
                for block in ((), (("weight", ONE),), (("weight", num(-1)), ("cap", num(0))), (("cap", BY_NOUGHT),)):
                    told = Teller(n, Policy(7, block)).shares((0,) * n, (person,), (0,) * n)
                    self.assertEqual(told, (7, (0,) * person + (7,) + (0,) * (n - person - 1)))

    def test_kinds_of_what_is_told(self):
        told = Teller(3, ALIKE).shares((0, 0, 0), (0, 2), (0, 0, 0))
        self.assertEqual(told, (6, (3, 0, 3)))
        self.assertEqual([type(part) for part in told], [int, tuple])
        self.assertEqual([type(top) for top in told[1]], [int, int, int])


class WentWrong(TellerTest):
    def test_the_weight_is_nought(self):
        for wrong in (BY_NOUGHT, ("mod", ONE, num(0)), add(num(MOST), ONE), ("-", num(-MOST), ONE)):
            for statement in (
                ("let", "a", wrong), ("keep", "a", wrong), ("own", "a", wrong), ("weight", wrong), ("cap", wrong),
                ("if", wrong, (), ()), chosen(ONE, ("let", "a", wrong)), ("if", num(0), (), (("cap", wrong),)),
                chosen(ONE, chosen(ONE, ("keep", "a", wrong))),
            ):
                for block in (
                    (("weight", num(5)), for_person(1, statement)), (for_person(1, statement), ("weight", num(5))),
                    (("weight", num(5)), for_person(1, statement), ("weight", num(7)), ("cap", num(6))),
                ):
                    self.assertEqual(tops(3, 6, *block), (3, 0, 3))

    def test_the_cap_is_the_bottom(self):
        block = (("weight", ONE), ("cap", ONE), for_person(1, ("weight", BY_NOUGHT)))
        self.assertEqual(tops(3, 6, *block), (2, 2, 2))
        self.assertEqual(tops(2, 6, ("cap", ONE), ("weight", BY_NOUGHT)), (3, 3))

    def test_stores_are_as_ahead_of_the_run(self):
        block = (
            ("keep", "a", add(("keep", "a"), ONE)), ("own", "b", add(("own", "b"), ONE)),
            ("keep", "new", num(4)), ("own", "new", num(5)),
            chosen(fact("need"), ("keep", "c", num(9)), ("own", "d", num(9)), ("let", "e", BY_NOUGHT)),
        )
        teller = Teller(3, Policy(6, block))
        teller.shares((1, 1, 1), (0, 1, 2), (0, 0, 0))
        self.assertEqual((teller.kept(), [teller.owned(person) for person in range(3)]), ({}, [{}, {}, {}]))
        teller.shares((0, 1, 0), (0, 1, 2), (0, 0, 0))
        self.assertEqual(teller.kept(), {"a": 2, "new": 4})
        self.assertEqual([teller.owned(person) for person in range(3)], [{"b": 1, "new": 5}, {}, {"b": 1, "new": 5}])
        teller.shares((1, 0, 1), (0, 1, 2), (0, 0, 0))
        self.assertEqual(teller.kept(), {"a": 3, "new": 4})
        self.assertEqual([teller.owned(person) for person in range(3)], [{"b": 1, "new": 5}] * 3)

    def test_what_was_nought_is_nought_again(self):
        block = (
            chosen(equal(fact("beat"), num(0)), ("keep", "a", num(3)), ("own", "b", num(3))),
            chosen(equal(fact("beat"), ONE), ("keep", "a", num(0)), ("own", "b", num(0)), ("cap", BY_NOUGHT)),
        )
        teller = Teller(1, Policy(6, block))
        for _ in range(2):
            beat_of(teller, 1)
            self.assertEqual((teller.kept(), teller.owned(0)), ({"a": 3}, {"b": 3}))

    def test_those_behind_read_what_was_ahead_of_the_run(self):
        block = (
            ("own", "seen", ("keep", "a")), ("keep", "a", add(("*", ("keep", "a"), num(10)), add(fact("person"), ONE))),
            for_person(1, ("weight", BY_NOUGHT)),
        )
        teller = Teller(3, Policy(6, block))
        beat_of(teller, 3)
        self.assertEqual(teller.kept(), {"a": 13})
        self.assertEqual([teller.owned(person) for person in range(3)], [{}, {}, {"seen": 1}])

    def test_nothing_behind_it_is_run(self):
        block = (("let", "a", BY_NOUGHT), ("keep", "b", ONE), ("own", "c", ONE), ("weight", num(9)))
        teller = Teller(2, Policy(6, block))
        self.assertEqual(beat_of(teller, 2), (3, 3))
        self.assertEqual((teller.kept(), teller.owned(0), teller.owned(1)), ({}, {}, {}))

    def test_what_is_not_run_does_not_go_wrong(self):
        wrong = ("weight", BY_NOUGHT)
        self.assertEqual(tops(2, 6, ("weight", ONE), for_person(1, ("weight", num(2))), chosen(num(0), wrong)), (2, 4))
        block = (*by_person("weight", (1, 2)), ("if", ONE, (), (wrong,)))
        self.assertEqual(tops(2, 6, *block), (2, 4))

    def test_it_goes_on_in_the_next_beat(self):
        block = (("keep", "a", add(("keep", "a"), ONE)), ("weight", ("/", num(6), fact("need"))))
        teller = Teller(2, Policy(6, block))
        self.assertEqual(teller.shares((0, 0), (0, 1), (0, 0)), (6, (3, 3)))
        self.assertEqual(teller.shares((0, 3), (0, 1), (0, 0)), (6, (0, 6)))
        self.assertEqual(teller.shares((6, 3), (0, 1), (0, 0)), (6, (2, 4)))
        self.assertEqual(teller.kept(), {"a": 3})

    def test_numbers_grow_until_they_are_too_great(self):
        block = (("keep", "a", add(("*", ("keep", "a"), num(10)), ONE)), ("weight", ONE))
        teller = Teller(1, Policy(6, block))
        for beat in range(25):
            beat_of(teller, 1)
            self.assertEqual(teller.kept(), {"a": int("1" * min(beat + 1, 18))})


class Refused(TellerTest):
    NEEDS, HERE, THINGS = (1, 2, 3), (0, 2), (0, 1, 0)

    def setUp(self):
        block = (("keep", "a", add(("keep", "a"), ONE)), ("own", "b", fact("beat")), ("weight", fact("need")))
        self.teller = Teller(3, Policy(6, block))
        self.teller.shares(self.NEEDS, (0, 1, 2), self.THINGS)
        self.teller.shares(self.NEEDS, (0, 1, 2), self.THINGS)

    def tearDown(self):
        """Nothing was changed by what was refused."""
        self.assertEqual(self.teller.kept(), {"a": 6})
        self.assertEqual([self.teller.owned(person) for person in range(3)], [{"b": 1}] * 3)
        self.assertEqual(self.teller.shares(self.NEEDS, self.HERE, self.THINGS), (6, (1, 0, 5)))
        self.assertEqual([self.teller.owned(person) for person in range(3)], [{"b": 2}, {"b": 1}, {"b": 2}])

    def refused(self, kind, needs, here, things):
        self.assertEqual(told_by(self.teller.shares, needs, here, things), (kind,))

    def no_numbers(self):
        """Things that are no tuple of three numbers up to 10 ** 9."""
        wrong = [thing for thing in all_kinds() if thing != (1, 2, 3)] + [
            (), (1,), (1, 2), (1, 2, 3, 4), [1, 2, 3], (1, 2, -1), (-1, 2, 3), (1, 2, 10 ** 9 + 1), (10 ** 59, 0, 0),
            (1, True, 3), (False, 2, 3), (1, 2, None), ("1", "2", "3"), (1, (2,), 3), ((1, 2, 3),), "123", b"\1\2\3",
            {0: 1, 1: 2, 2: 3}, range(3), ([], 2, 3),
        ]
        return wrong + [(1, thing, 3) for thing in no_integers()]

    def test_no_needs(self):
        for needs in self.no_numbers():
            self.refused(NoNeeds, needs, self.HERE, self.THINGS)
            self.refused(NoNeeds, needs, (), self.THINGS)
            self.refused(NoNeeds, needs, None, None)

    def test_no_lot(self):
        lots = [
            (), [0], [0, 2], (0, 0), (1, 0), (2, 1, 0), (0, 1, 1), (3,), (0, 3), (0, 1, 2, 3), (-1,), (-1, 0), (True,),
            (0, True), (False, 1), (0, None), (None,), ("0",), ((0,),), "0", b"\0", {0: 1}, range(2), 0, (0, 2, 1),
            (0, 10 ** 59), (0, (1,)), ([],), ({},),
        ]
        lots += [thing for thing in all_kinds() if thing not in ((1,), (1, 2))] + [(thing,) for thing in no_integers()]
        for here in lots:
            self.refused(NoLot, self.NEEDS, here, self.THINGS)
            self.refused(NoLot, self.NEEDS, here, None)
            self.refused(NoLot, self.NEEDS, here, (0, 0))

    def test_no_numbers(self):
        for things in self.no_numbers():
            self.refused(NoNumbers, self.NEEDS, self.HERE, things)

    def test_the_greatest_that_are_let(self):
        most = (10 ** 9,) * 3
        self.assertIsNone(told_by(self.teller.copy().shares, most, (0, 1, 2), most))
        self.assertIsNone(told_by(self.teller.copy().shares, (0, 0, 0), (2,), (0, 0, 0)))

    def test_no_policy_and_no_person(self):
        self.assertEqual(told_by(self.teller.turned, None), (NoPolicy,))
        self.assertEqual(told_by(self.teller.owned, 3), (NoPerson,))
        self.assertEqual(told_by(self.teller.owned, True), (NoPerson,))

    def test_nothing_that_is_passed_is_changed(self):
        for thing in ([1, 2, 3], ([1], 2, 3), [[1], [2], [3]], {0: [1]}):
            ahead = snapshot(thing)
            told_by(self.teller.shares, thing, self.HERE, self.THINGS)
            told_by(self.teller.shares, self.NEEDS, thing, self.THINGS)
            told_by(self.teller.shares, self.NEEDS, self.HERE, thing)
            told_by(self.teller.turned, thing)
            told_by(self.teller.owned, thing)
            told_by(Teller, thing, thing)
            self.assertEqual(thing, ahead)

    def test_a_policy_is_not_changed(self):
        policy = Policy(6, (("keep", "a", add(("keep", "a"), ONE)), ("weight", ("keep", "a"))))
        teller = Teller(2, policy)
        beat_of(teller, 2)
        beat_of(teller.turned(policy), 2)
        self.assertTrue(policy == Policy(6, (("keep", "a", add(("keep", "a"), ONE)), ("weight", ("keep", "a")))))


class Turned(TellerTest):
    COUNT = (("keep", "a", add(("keep", "a"), ONE)), ("own", "b", add(("own", "b"), fact("beat"))), ("weight", ONE))

    def led(self):
        teller = Teller(3, Policy(6, self.COUNT))
        for _ in range(3):
            beat_of(teller, 3, here=(0, 2))
        return teller

    def state(self, teller):
        return (teller.kept(), [teller.owned(person) for person in range(3)])

    def test_with_the_kept_numbers_and_the_beat(self):
        teller = self.led()
        self.assertEqual(self.state(teller), ({"a": 6}, [{"b": 3}, {}, {"b": 3}]))
        block = (
            ("keep", "beats", fact("beat")), ("weight", add(("own", "b"), fact("person"))), ("own", "c", ("keep", "a")),
        )
        other = teller.turned(Policy(9, block))
        self.assertIs(type(other), Teller)
        self.assertIsNot(other, teller)
        self.assertEqual(self.state(other), self.state(teller))
        self.assertEqual(other.shares((0, 0, 0), (0, 1, 2), (0, 0, 0)), (9, (3, 1, 5)))
        self.assertEqual(self.state(other), ({"a": 6, "beats": 3}, [{"b": 3, "c": 6}, {"c": 6}, {"b": 3, "c": 6}]))
        self.assertEqual(self.state(teller), ({"a": 6}, [{"b": 3}, {}, {"b": 3}]))

    def test_another_bottom(self):
        teller = self.led()
        for bottom in (1, 2, 7, 360):
            other = teller.turned(Policy(bottom, (("weight", ONE), ("cap", num(400)))))
            told = other.shares((0, 0, 0), (0, 2), (0, 0, 0))
            self.assertEqual(told, (bottom, (bottom - bottom // 2, 0, bottom // 2)))
        self.assertEqual(teller.shares((0, 0, 0), (0, 2), (0, 0, 0)), (6, (3, 0, 3)))

    def test_both_go_on_apart(self):
        for make in (lambda teller: teller.copy(), lambda teller: teller.turned(Policy(6, self.COUNT))):
            teller = self.led()
            other = make(teller)
            self.assertIs(type(other), Teller)
            self.assertEqual(self.state(other), self.state(teller))
            ahead = self.state(teller)
            beat_of(other, 3)
            beat_of(other, 3)
            self.assertEqual(self.state(teller), ahead)
            self.assertEqual(self.state(other), ({"a": 12}, [{"b": 10}, {"b": 7}, {"b": 10}]))
            behind = self.state(other)
            beat_of(teller, 3, here=(1,))
            self.assertEqual(self.state(teller), ({"a": 7}, [{"b": 3}, {"b": 3}, {"b": 3}]))
            self.assertEqual(self.state(other), behind)

    def test_turned_of_turned(self):
        teller = self.led()
        other = teller.turned(ALIKE).turned(Policy(6, self.COUNT)).copy()
        beat_of(other, 3)
        self.assertEqual(self.state(other), ({"a": 9}, [{"b": 6}, {"b": 3}, {"b": 6}]))

    def test_a_copy_has_the_same_policy(self):
        policy = Policy(7, by_person("weight", (1, 2, 4)))
        teller = Teller(3, policy)
        self.assertEqual(beat_of(teller.copy(), 3), (1, 2, 4))
        self.assertEqual(beat_of(teller.turned(ALIKE).copy(), 3), (2, 2, 2))
        self.assertEqual(beat_of(teller, 3), (1, 2, 4))

    def test_errors_of_copies(self):
        for teller in (self.led().copy(), self.led().turned(ALIKE)):
            self.assertEqual(told_by(teller.shares, (0, 0), (0,), (0, 0)), (NoNeeds,))
            self.assertEqual(told_by(teller.owned, 3), (NoPerson,))
            self.assertIsNone(told_by(teller.shares, (0, 0, 0), (0, 2), (0, 0, 0)))

    def test_new_ones_stand_apart(self):
        policy = Policy(6, self.COUNT)
        one, other = Teller(3, policy), Teller(3, policy)
        beat_of(one, 3)
        self.assertEqual(self.state(other), ({}, [{}, {}, {}]))
        self.assertEqual(self.state(Teller(3, policy)), ({}, [{}, {}, {}]))


class Long(TellerTest):
    def test_random_policies(self):
        chance = Random(2)
        for n in range(1, 13):
            for _ in range(14):
                policy = some_policy(chance)
                self.follow(Teller(n, policy), Reckoned(n, policy), 6, chance)

    def test_random_turns_and_copies(self):
        chance = Random(3)
        for n in (1, 2, 3, 5, 12):
            policy = some_policy(chance)
            tellers = [(Teller(n, policy), Reckoned(n, policy))]
            for _ in range(30):
                teller, reckoned = chance.choice(tellers)
                if chance.random() < 0.3:
                    policy = some_policy(chance)
                    tellers.append((teller.turned(policy), reckoned.turned(policy)))
                elif chance.random() < 0.2:
                    tellers.append((teller.copy(), reckoned.turned(reckoned.policy)))
                self.follow(teller, reckoned, 2, chance)
            for teller, reckoned in tellers:
                self.same(teller, reckoned)

    def test_several_hundred_beats(self):
        chance = Random(4)
        block = (
            ("own", "seen", add(("own", "seen"), ONE)), ("keep", "alls", add(("keep", "alls"), fact("need"))),
            ("weight", ("mod", add(("*", ("own", "seen"), num(7)), ("keep", "alls")), num(11))),
            ("cap", ("mod", fact("beat"), num(9))), for_person(1, ("cap", ("/", ONE, fact("need")))),
        )
        policy = Policy(12, block)
        self.follow(Teller(4, policy), Reckoned(4, policy), 500, chance)

    def test_equal_calls_give_equal_answers(self):
        chance = Random(5)
        policy = some_policy(chance)
        one, other = Teller(3, policy), Teller(3, policy)
        for beat in range(20):
            given = ((beat, 2, 3), (0, 1, 2) if beat % 3 else (beat % 2,), (0, beat, 5))
            self.assertEqual(one.shares(*given), other.shares(*given))
            self.assertEqual(one.kept(), other.kept())


if __name__ == "__main__":
    unittest.main()
