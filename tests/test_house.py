"""Points 8.1 and 8.2: houses, whose policies are turned while people leave and come."""

import unittest
from fractions import Fraction
from random import Random

from harmonicdues import house as module
from harmonicdues.ahead import is_plan
from harmonicdues.dealing import dealt, debts_behind, least, most
from harmonicdues.errors import (
    Full, HereAlready, LastOne, NoNeeds, NoNumber, NoPeople, NoPolicy, NotHere,
)
from harmonicdues.greatest import is_calm
from harmonicdues.house import House
from harmonicdues.policies import Policy
from harmonicdues.shares import is_row
from tests.test_dealing import Reckoned as ReckonedDealer
from tests.test_tellers import Reckoned as ReckonedTeller
from tests.things import (
    all_kinds, is_same, no_integers, no_people, no_persons, other_things, pair_of, snapshot, some_policy, told_by,
    tuples,
)

ONE = ("num", 1)
ALIKE = Policy(2, (("weight", ONE),))
METHODS = (
    "__init__", "beat", "turn", "leave", "come", "debts", "things", "here", "waiting", "row", "deals", "foreseen",
    "plan_ahead", "settle", "copy",
)


def weighing(fact, bottom=360):
    """A policy by which each one's weight is a fact and 1."""
    return Policy(bottom, (("weight", ("+", ("fact", fact), ONE)),))


# Each one here keeps how many beats it was here in, and all together keep how many runs there were.
COUNTING = Policy(60, (
    ("keep", "runs", ("+", ("keep", "runs"), ONE)), ("own", "mine", ("+", ("own", "mine"), ONE)),
    ("weight", ("+", ("own", "mine"), ("mod", ("keep", "runs"), ("num", 5)))),
))


class Reckoned:
    """A house put together of a teller and a dealer that are reckoned in other ways."""

    def __init__(self, n, policy):
        self.n = n
        self.teller, self.dealer = ReckonedTeller(n, policy), ReckonedDealer(n)
        self.away, self.waiting = {}, [0] * n
        self.row, self.deals = [], []

    def here(self):
        return tuple(person for person in range(self.n) if person not in self.away)

    def shares(self, needs):
        return self.teller.shares(needs, self.here(), tuple(self.dealer.things))

    def beat(self, needs):
        self.row.append(self.shares(needs))
        self.deals.append(self.dealer.beat(self.row[-1]))
        if self.deals[-1] in self.away:
            self.away[self.deals[-1]] += 1
        return self.deals[-1]

    def turn(self, policy):
        self.teller = self.teller.turned(policy)

    def leave(self, person):
        self.away[person] = 0

    def come(self, person):
        return self.away.pop(person)

    def state(self):
        debts, things, _ = self.dealer.state()
        waiting = tuple(self.away.get(person, 0) for person in range(self.n))
        return (debts, things, self.here(), waiting, tuple(self.row), self.deals, reckoned_settle(debts))


def reckoned_settle(debts):
    """The payments, found by laying what is paid and what is got end to end."""
    def laid(sign):
        at, parts = Fraction(0), []
        for person, debt in enumerate(debts):
            if sign * debt[0] > 0:
                parts.append((person, at, at + sign * Fraction(*debt)))
                at = parts[-1][2]
        return parts

    told = []
    for payer, begin, end in laid(-1):
        for receiver, first, last in laid(1):
            common = min(end, last) - max(begin, first)
            if common > 0:
                told.append((payer, receiver, pair_of(common)))
    return told


def state(house):
    return (
        house.debts(), house.things(), house.here(), house.waiting(), house.row(), house.deals(), house.settle(),
    )


def some_needs(n, chance):
    return tuple(chance.choice((0, 1, chance.randint(0, 9), chance.randint(0, 10 ** 9))) for _ in range(n))


def noughts(n):
    return (0,) * n


def no_needs(n):
    """Things of all kinds that are no needs of n people, two at least."""
    return all_kinds() + [
        list(noughts(n)), noughts(n - 1), noughts(n + 1), (-1,) + noughts(n - 1), (10 ** 9 + 1,) + noughts(n - 1),
        (False,) + noughts(n - 1), noughts(n - 1) + (True,), noughts(n - 1) + (None,), noughts(n - 1) + ("0",),
        ((0,),) * n, (noughts(n),), dict.fromkeys(range(n), 0), "0" * n, bytes(n), range(n),
    ]


class HouseTest(unittest.TestCase):
    def same(self, house, reckoned):
        self.assertTrue(is_same(state(house), reckoned.state()))

    def calm(self, n, house):
        beats = len(house.row())
        self.assertIs(is_calm(n, beats, house.debts()), True)
        debts = [Fraction(*debt) for debt in house.debts()]
        self.assertLessEqual(max(debts), Fraction(*most(n, beats)))
        self.assertGreaterEqual(min(debts), Fraction(*least(n)))
        self.assertLess(len(house.settle()), n)

    def do_something(self, house, reckoned, chance):
        """Do one deed and compare."""
        n, here = reckoned.n, reckoned.here()
        deed = chance.random()
        if deed < 0.7:
            needs = some_needs(n, chance)
            self.assertTrue(is_same(house.beat(needs), reckoned.beat(needs)))
        elif deed < 0.8:
            policy = some_policy(chance)
            self.assertIsNone(house.turn(policy))
            reckoned.turn(policy)
        elif deed < 0.9 and len(here) > 1:
            person = chance.choice(here)
            self.assertIsNone(house.leave(person))
            reckoned.leave(person)
        elif len(here) < n:
            person = chance.choice(sorted(reckoned.away))
            self.assertTrue(is_same(house.come(person), reckoned.come(person)))
        self.same(house, reckoned)

    def unchanged(self, house, told, call, *given):
        """That a call raises this and changes nothing, not even what comes later."""
        ahead, n = state(house), len(house.debts())
        later = house.copy()
        self.assertEqual(told_by(call, *given), told)
        self.assertTrue(is_same(state(house), ahead))
        needs = tuple(range(n))
        self.assertEqual(house.foreseen(needs, 3), later.foreseen(needs, 3))


class Interface(unittest.TestCase):
    def test_the_class_stands_in_its_module(self):
        self.assertEqual(House.__module__, "harmonicdues.house")
        self.assertIs(module.House, House)

    def test_methods_stand_in_the_class(self):
        for name in METHODS:
            self.assertIn(name, vars(House))


class New(HouseTest):
    def test_one_to_twelve_people(self):
        for n in range(1, 13):
            house = House(n, ALIKE)
            told = (((0, 1),) * n, noughts(n), tuple(range(n)), noughts(n), (), [], [])
            self.assertTrue(is_same(state(house), told))

    def test_no_people(self):
        for n in no_people():
            for policy in (ALIKE, None, "bottom 2\n"):
                self.assertEqual(told_by(House, n, policy), (NoPeople,))

    def test_no_policy(self):
        for thing in all_kinds() + [(2, ()), "bottom 2\n", Policy, {"bottom": 2, "block": ()}]:
            if type(thing) is not Policy:
                for n in (1, 12):
                    self.assertEqual(told_by(House, n, thing), (NoPolicy,))

    def test_equal_to_itself_alone(self):
        house = House(2, ALIKE)
        self.assertTrue(house == house)
        for thing in [House(2, ALIKE), house.copy()] + other_things() + tuples():
            self.assertFalse(house == thing)
            self.assertTrue(house != thing)


class Deeds(HouseTest):
    def test_the_example_of_the_document(self):
        h = House(2, Policy(2, (("weight", ("num", 1)),)))
        told = (h.beat((0, 0)), h.settle(), h.foreseen((0, 0), 2))
        self.assertTrue(is_same(told, (0, [(0, 1, (1, 2))], ((2, (1, 1)), (2, (1, 1))))))

    def test_deeds_of_all_kinds(self):
        chance = Random(1)
        for n in range(1, 13):
            for _ in range(4):
                policy = some_policy(chance)
                house, reckoned = House(n, policy), Reckoned(n, policy)
                for _ in range(30):
                    self.do_something(house, reckoned, chance)
                    self.calm(n, house)
                self.assertIs(is_row(n, 1, house.row()), True)
                self.assertEqual(house.deals(), dealt(n, house.row()))

    def test_kinds_of_policies(self):
        chance = Random(2)
        for policy in [weighing(fact) for fact in ("beat", "person", "need", "things", "people")] + [COUNTING, ALIKE]:
            for n in (1, 2, 3, 12):
                house, reckoned = House(n, policy), Reckoned(n, policy)
                for _ in range(25):
                    self.do_something(house, reckoned, chance)
                    if chance.random() < 0.2:
                        house.turn(policy)
                        reckoned.turn(policy)

    def test_the_teller_gets_the_things_got_so_far(self):
        house = House(2, weighing("things", 6))
        self.assertEqual([house.beat((0, 0)) for _ in range(3)], [0, 1, 0])
        self.assertEqual(house.row(), ((6, (3, 3)), (6, (4, 2)), (6, (3, 3))))
        house.beat((0, 0))
        self.assertEqual(house.row()[-1], (6, (4, 2)))
        self.assertEqual(house.things(), (2, 2))

    def test_what_waits_counts_among_the_things_got(self):
        house = House(2, weighing("things", 6))
        house.leave(0)
        self.assertEqual(house.beat((0, 0)), 1)
        house.come(0)
        house.turn(Policy(1, (("weight", ("=", ("fact", "person"), ("num", 0))),)))
        house.beat((0, 0))
        house.turn(weighing("things", 6))
        self.assertEqual(house.things(), (1, 1))
        house.leave(0)
        house.beat((0, 0))
        self.assertEqual((house.row()[-1], house.things(), house.waiting()), ((6, (0, 6)), (1, 2), (0, 0)))

    def test_the_teller_gets_who_is_here(self):
        house = House(3, weighing("people", 12))
        house.leave(1)
        house.beat((0, 0, 0))
        self.assertEqual(house.row(), ((12, (6, 0, 6)),))
        house.come(1)
        house.beat((0, 0, 0))
        self.assertEqual(house.row()[1], (12, (4, 4, 4)))

    def test_the_teller_gets_the_needs(self):
        house = House(3, weighing("need", 12))
        house.beat((0, 1, 2))
        house.beat((10 ** 9, 0, 0))
        self.assertEqual(house.row(), ((12, (2, 4, 6)), (12, (12, 0, 0))))

    def test_who_gets_it_is_returned(self):
        house = House(3, ALIKE)
        told = [house.beat((0, 0, 0)) for _ in range(7)]
        self.assertEqual(told, house.deals())
        self.assertEqual([type(person) for person in told], [int] * 7)


class Turns(HouseTest):
    def test_from_the_next_beat_on(self):
        house = House(2, ALIKE)
        house.beat((0, 0))
        self.assertIsNone(house.turn(Policy(5, (("weight", ("fact", "person")),))))
        self.assertEqual(house.row(), ((2, (1, 1)),))
        house.beat((0, 0))
        self.assertIsNone(house.turn(ALIKE))
        house.beat((0, 0))
        self.assertEqual(house.row(), ((2, (1, 1)), (5, (0, 5)), (2, (1, 1))))

    def test_the_beats_go_on(self):
        house = House(2, ALIKE)
        for _ in range(3):
            house.beat((0, 0))
        house.turn(Policy(8, (("cap", ("fact", "beat")), ("weight", ("=", ("fact", "person"), ("num", 1))))))
        house.beat((0, 0))
        self.assertEqual(house.row()[-1], (8, (4, 4)))
        house.turn(Policy(8, (
            ("weight", ("=", ("fact", "person"), ("num", 1))), ("if", ("=", ("fact", "beat"), ("num", 4)), (), (
                ("weight", ("=", ("fact", "person"), ("num", 0))),
            )),
        )))
        house.beat((0, 0))
        house.beat((0, 0))
        self.assertEqual(house.row()[-2:], ((8, (0, 8)), (8, (8, 0))))

    def test_kept_numbers_go_on(self):
        house = House(2, COUNTING)
        for _ in range(3):
            house.beat((0, 0))
        house.leave(1)
        house.beat((0, 0))
        house.come(1)
        house.turn(Policy(7, (("weight", ("own", "mine")),)))
        house.beat((0, 0))
        self.assertEqual(house.row()[-1], (7, (4, 3)))
        house.turn(Policy(9, (("if", ("=", ("fact", "person"), ("num", 0)), (("cap", ("keep", "runs")),), ()), (
            "weight", ("+", ONE, ("*", ("num", 1000), ("=", ("fact", "person"), ("num", 0))))))))
        house.beat((0, 0))
        self.assertEqual(house.row()[-1], (9, (7, 2)))

    def test_no_policy(self):
        house = House(2, COUNTING)
        house.beat((0, 1))
        for thing in all_kinds() + [(2, ()), "bottom 2\n", Policy]:
            if type(thing) is not Policy:
                self.unchanged(house, (NoPolicy,), house.turn, thing)


class NoBeats(HouseTest):
    def test_no_needs(self):
        for n in (2, 3, 12):
            house = House(n, COUNTING)
            house.beat(noughts(n))
            house.leave(0)
            for needs in no_needs(n):
                if needs in ((1, 2), (1, 2, 3)):
                    continue
                self.unchanged(house, (NoNeeds,), house.beat, needs)
                self.unchanged(house, (NoNeeds,), house.foreseen, needs, 1)
                self.unchanged(house, (NoNeeds,), house.plan_ahead, needs, 1)
                self.unchanged(house, (NoNeeds,), house.foreseen, needs, None)
                self.unchanged(house, (NoNeeds,), house.plan_ahead, needs, 0)

    def test_needs_of_one_who_is_away_are_asked_for(self):
        house = House(2, ALIKE)
        house.leave(1)
        self.unchanged(house, (NoNeeds,), house.beat, (0,))
        self.assertEqual(house.beat((0, 10 ** 9)), 0)

    def test_four_hundred_beats(self):
        chance = Random(3)
        for n, policy in ((1, ALIKE), (3, COUNTING), (5, weighing("things", 7)), (2, Policy(359, (("weight", ONE),)))):
            house, reckoned = House(n, policy), Reckoned(n, policy)
            for _ in range(400):
                needs = some_needs(n, chance)
                self.assertEqual(house.beat(needs), reckoned.beat(needs))
            self.same(house, reckoned)
            self.calm(n, house)
            for needs in (None, (0,) * (n + 1), (-1,) * n, list(noughts(n))):
                self.unchanged(house, (NoNeeds,), house.beat, needs)
            self.unchanged(house, (Full,), house.beat, noughts(n))
            self.unchanged(house, (Full,), house.copy().beat, noughts(n))
            self.assertEqual(len(house.row()), 400)
            needs = some_needs(n, chance)
            self.assertEqual(house.foreseen(needs, 60), tuple(self.told(reckoned, needs) for _ in range(60)))
            self.assertEqual(len(house.row()), 400)

    def told(self, reckoned, needs):
        """The shares of one beat more than a house has."""
        reckoned.beat(needs)
        return reckoned.row[-1]

    def test_the_last_beat(self):
        house = House(2, ALIKE)
        for at in range(399):
            house.beat((0, 0))
        self.assertEqual(house.beat((0, 0)), 1)
        self.assertEqual(told_by(house.beat, (0, 0)), (Full,))
        self.assertEqual(told_by(house.beat, (0, 0)), (Full,))

    def test_all_else_goes_on_when_it_is_full(self):
        house = House(2, ALIKE)
        for _ in range(400):
            house.beat((0, 0))
        house.turn(COUNTING)
        house.leave(1)
        self.assertEqual(house.foreseen((0, 0), 1), ((60, (60, 0)),))
        self.assertEqual(house.come(1), 0)
        self.assertEqual(house.settle(), [])


class Leaving(HouseTest):
    def test_who_is_here(self):
        house = House(4, ALIKE)
        self.assertIsNone(house.leave(2))
        self.assertEqual(house.here(), (0, 1, 3))
        self.assertIsNone(house.leave(0))
        self.assertEqual(house.here(), (1, 3))
        self.assertEqual(house.come(2), 0)
        self.assertEqual(house.here(), (1, 2, 3))
        self.assertEqual(house.come(0), 0)
        self.assertEqual(house.here(), (0, 1, 2, 3))

    def test_not_here(self):
        for n in (2, 3, 12):
            house = House(n, ALIKE)
            house.leave(1)
            for person in no_persons(n) + [1]:
                self.unchanged(house, (NotHere,), house.leave, person)
            self.assertIsNone(told_by(house.come, 1))
            self.unchanged(house, (NotHere,), house.leave, True)
            self.unchanged(house, (NotHere,), house.leave, False)

    def test_the_last_one(self):
        for n in range(1, 13):
            house = House(n, ALIKE)
            for person in range(n - 1):
                house.leave(person)
            self.unchanged(house, (LastOne,), house.leave, n - 1)
            # Whoever is not here is not the last one.
            for person in list(range(n - 1)) + [n, -1, None, True]:
                self.unchanged(house, (NotHere,), house.leave, person)
            self.assertEqual(house.here(), (n - 1,))

    def test_here_already(self):
        for n in (1, 2, 3, 12):
            house = House(n, ALIKE)
            for person in no_persons(n) + list(range(n)):
                self.unchanged(house, (HereAlready,), house.come, person)
            if n > 2:
                house.leave(1)
                house.leave(0)
                for person in no_persons(n) + list(range(2, n)):
                    self.unchanged(house, (HereAlready,), house.come, person)
                self.assertEqual((house.come(0), house.come(1)), (0, 0))

    def test_what_waits(self):
        # The debts of those who left stay, and the greatest is dealt to, here or not.
        house = House(3, Policy(6, (("weight", ("fact", "need")),)))
        self.assertEqual((house.beat((1, 1, 1)), house.beat((0, 1, 1))), (0, 1))
        self.assertEqual(house.debts(), ((-2, 3), (-1, 6), (5, 6)))
        house.leave(2)
        self.assertEqual(house.beat((5, 1, 9)), 2)
        self.assertEqual(house.row()[-1], (6, (5, 1, 0)))
        self.assertEqual(house.debts(), ((1, 6), (0, 1), (-1, 6)))
        self.assertEqual(house.waiting(), (0, 0, 1))
        self.assertEqual(house.beat((1, 0, 0)), 0)
        self.assertEqual((house.waiting(), house.things()), ((0, 0, 1), (2, 1, 1)))
        house.leave(0)
        self.assertEqual((house.come(0), house.waiting()), (0, (0, 0, 1)))
        self.assertEqual(house.come(2), 1)
        self.assertEqual((house.waiting(), house.things()), ((0, 0, 0), (2, 1, 1)))
        house.leave(2)
        self.assertEqual((house.come(2), house.waiting()), (0, (0, 0, 0)))
        self.assertEqual(house.deals(), [0, 1, 2, 0])

    def test_several_things_wait(self):
        # Persons 1 and 2 have each a debt of 2/3 and more before they leave.
        house = House(12, Policy(12, (("weight", ONE),)))
        for _ in range(2):
            house.beat(noughts(12))
        for person in range(2, 12):
            house.leave(person)
        waited = []
        for _ in range(8):
            waited.append(house.beat(noughts(12)))
        self.assertEqual(house.waiting(), tuple(waited.count(p) if p > 1 else 0 for p in range(12)))
        self.assertGreater(sum(house.waiting()), 0)
        for person in range(2, 12):
            self.assertEqual(house.come(person), waited.count(person))
            self.assertEqual(house.waiting()[person], 0)

    def test_what_waits_for_the_second_time(self):
        chance = Random(4)
        found = 0
        for _ in range(60):
            house = House(3, Policy(6, (("weight", ("fact", "need")),)))
            waiting, away = [0] * 3, set()
            for _ in range(60):
                if chance.random() < 0.3 and len(away) < 2:
                    person = chance.choice(house.here())
                    house.leave(person)
                    away.add(person)
                elif chance.random() < 0.15 and away:
                    person = away.pop()
                    found = max(found, waiting[person])
                    self.assertEqual(house.come(person), waiting[person])
                    waiting[person] = 0
                else:
                    person = house.beat(tuple(chance.randint(0, 5) for _ in range(3)))
                    waiting[person] += person in away
                self.assertEqual(house.waiting(), tuple(waiting))
        self.assertGreater(found, 0)

    def test_leaving_is_not_counted_as_a_beat(self):
        house = House(2, weighing("beat", 5))
        house.leave(0)
        house.come(0)
        house.turn(weighing("beat", 5))
        self.assertEqual((house.row(), house.deals()), ((), []))
        house.beat((0, 0))
        self.assertEqual(house.row(), ((5, (3, 2)),))


class Apart(HouseTest):
    def test_copies_go_on_apart(self):
        chance = Random(5)
        for n in (1, 2, 3, 7, 12):
            for policy in (COUNTING, some_policy(chance)):
                house, reckoned = House(n, policy), Reckoned(n, policy)
                for _ in range(15):
                    self.do_something(house, reckoned, chance)
                copy = house.copy()
                self.assertIs(type(copy), House)
                self.assertIsNot(copy, house)
                self.assertTrue(is_same(state(copy), state(house)))
                ahead, foreseen = state(house), house.foreseen(noughts(n), 5)
                self.assertEqual(copy.foreseen(noughts(n), 5), foreseen)
                for _ in range(15):
                    self.do_something(copy, reckoned, chance)
                self.assertTrue(is_same(state(house), ahead))
                self.assertEqual(house.foreseen(noughts(n), 5), foreseen)
                behind, later = state(copy), copy.foreseen(noughts(n), 5)
                for _ in range(5):
                    house.beat(some_needs(n, chance))
                house.turn(ALIKE)
                self.assertTrue(is_same(state(copy), behind))
                self.assertEqual(copy.foreseen(noughts(n), 5), later)

    def test_what_a_copy_counts_is_its_own(self):
        for policy in (COUNTING, weighing("beat"), weighing("things")):
            house = House(2, policy)
            house.turn(policy)
            house.beat((0, 0))
            copy, ahead = house.copy(), house.foreseen((0, 0), 9)
            house.leave(0)
            copy.beat((0, 0))
            self.assertEqual((copy.row()[1:], copy.here()), (ahead[:1], (0, 1)))
            house.come(0)
            self.assertEqual(house.foreseen((0, 0), 9), ahead)
            self.assertEqual(copy.foreseen((0, 0), 8), ahead[1:])
            house.beat((0, 0))
            self.assertEqual(copy.foreseen((0, 0), 8), ahead[1:])

    def test_what_waits_when_it_is_copied(self):
        house = House(3, Policy(6, (("weight", ("fact", "need")),)))
        house.beat((1, 1, 1))
        house.beat((0, 1, 1))
        house.leave(2)
        house.beat((5, 1, 9))
        copy = house.copy()
        self.assertEqual((copy.waiting(), copy.here()), ((0, 0, 1), (0, 1)))
        self.assertEqual(copy.come(2), 1)
        self.assertEqual((copy.waiting(), house.waiting()), ((0, 0, 0), (0, 0, 1)))
        self.assertEqual((house.come(2), house.copy().waiting()), (1, (0, 0, 0)))

    def test_a_copy_keeps_the_newest_policy(self):
        house = House(2, ALIKE)
        house.turn(Policy(7, (("weight", ("fact", "person")),)))
        copy = house.copy().copy()
        copy.beat((0, 0))
        self.assertEqual(copy.row(), ((7, (0, 7)),))

    def test_houses_stand_apart(self):
        one, other = House(2, COUNTING), House(2, COUNTING)
        one.beat((0, 0))
        one.leave(0)
        told = (((0, 1),) * 2, (0, 0), (0, 1), (0, 0), (), [], [])
        self.assertTrue(is_same(state(other), told))

    def test_lists_that_were_told_change_nothing(self):
        house = House(2, ALIKE)
        house.beat((0, 0))
        for call, told in ((house.deals, [0]), (house.settle, [(0, 1, (1, 2))])):
            one, other = call(), call()
            self.assertIs(type(one), list)
            self.assertIsNot(one, other)
            one.append(None)
            one[0] = 5
            self.assertEqual((other, call()), (told, told))
        house.deals().clear()
        house.beat((0, 0))
        self.assertEqual(house.deals(), [0, 1])
        copy = house.copy()
        copy.deals().append(1)
        self.assertEqual((copy.deals(), house.deals()), ([0, 1], [0, 1]))

    def test_what_was_told_stays_as_it_was(self):
        house = House(2, ALIKE)
        house.beat((0, 0))
        told, ahead = state(house), snapshot(state(house))
        house.leave(1)
        house.beat((0, 0))
        house.come(1)
        self.assertTrue(is_same(told, ahead))

    def test_to_read_changes_nothing(self):
        house = House(3, COUNTING)
        house.beat((1, 2, 3))
        house.leave(1)
        ahead = state(house)
        for _ in range(3):
            house.foreseen((0, 0, 1), 9)
            house.plan_ahead((0, 0, 1), 9)
            house.copy().beat((0, 0, 0))
            self.assertTrue(is_same(state(house), ahead))

    def test_needs_are_not_changed(self):
        for needs in ([0, 0], ([0], {}), [[0], [0]]):
            ahead = snapshot(needs)
            told_by(House(2, ALIKE).beat, needs)
            told_by(House(2, ALIKE).foreseen, needs, needs)
            told_by(House(2, ALIKE).leave, needs)
            told_by(House(2, ALIKE).come, needs)
            self.assertEqual(needs, ahead)


class Foreseen(HouseTest):
    def test_what_then_comes(self):
        chance = Random(6)
        for n in range(1, 13):
            policy = some_policy(chance)
            house, reckoned = House(n, policy), Reckoned(n, policy)
            for _ in range(10):
                self.do_something(house, reckoned, chance)
            needs = some_needs(n, chance)
            for beats in (1, 2, 60):
                ahead = state(house)
                told = house.foreseen(needs, beats)
                self.assertTrue(is_same(house.foreseen(needs, beats), told))
                self.assertTrue(is_same(state(house), ahead))
                self.assertIs(is_row(n, 1, told), True)
                self.assertEqual(len(told), beats)
                copy = house.copy()
                for _ in range(beats):
                    copy.beat(needs)
                self.assertTrue(is_same(copy.row()[len(house.row()):], told))

    def test_things_that_come_count_for_what_is_foreseen_behind_them(self):
        house = House(2, weighing("things", 6))
        told = house.foreseen((0, 0), 4)
        self.assertEqual(told, ((6, (3, 3)), (6, (4, 2)), (6, (3, 3)), (6, (4, 2))))
        self.assertEqual((house.things(), house.row()), ((0, 0), ()))

    def test_beyond_the_four_hundredth_beat(self):
        house = House(3, COUNTING)
        for _ in range(380):
            house.beat((0, 0, 0))
        told = house.foreseen((1, 0, 2), 60)
        self.assertEqual(len(told), 60)
        for _ in range(20):
            house.beat((1, 0, 2))
        self.assertEqual(house.row()[380:], told[:20])
        self.assertEqual(house.foreseen((1, 0, 2), 40), told[20:])
        self.assertEqual(told_by(house.beat, (1, 0, 2)), (Full,))

    def test_no_number(self):
        for n in (1, 2, 12):
            house = House(n, COUNTING)
            for beats in [0, 61, -1, 62, 400, 10 ** 59] + no_integers():
                self.unchanged(house, (NoNumber,), house.foreseen, noughts(n), beats)
                self.unchanged(house, (NoNumber,), house.plan_ahead, noughts(n), beats)

    def test_all_numbers_that_are_let(self):
        house = House(2, ALIKE)
        for beats in range(1, 61):
            self.assertEqual(house.foreseen((0, 0), beats), ((2, (1, 1)),) * beats)
            self.assertIs(is_plan(2, 1, ((2, (1, 1)),) * beats, house.plan_ahead((0, 0), beats)), True)

    def test_plans_keep_just_what_is_foreseen(self):
        chance = Random(7)
        for n in range(1, 13):
            policy = some_policy(chance)
            house, reckoned = House(n, policy), Reckoned(n, policy)
            for _ in range(8):
                self.do_something(house, reckoned, chance)
            for beats in (1, 7, 60):
                needs, ahead = some_needs(n, chance), state(house)
                told = house.plan_ahead(needs, beats)
                self.assertIs(is_plan(n, 1, house.foreseen(needs, beats), told), True)
                self.assertTrue(is_same(house.plan_ahead(needs, beats), told))
                self.assertTrue(is_same(state(house), ahead))

    def test_a_plan_is_for_this_row_alone(self):
        # What was dealt ahead does not count for it: person 0 gets all that is foreseen.
        house = House(2, ALIKE)
        house.beat((0, 0))
        house.turn(Policy(1, (("weight", ("=", ("fact", "person"), ("num", 1))),)))
        self.assertEqual(house.plan_ahead((0, 0), 2), ((1,), (1,)))
        house.turn(Policy(1, (("weight", ("=", ("fact", "person"), ("num", 0))),)))
        self.assertEqual(house.plan_ahead((0, 0), 2), ((0,), (0,)))


class Settling(HouseTest):
    def settled(self, n, house):
        told = house.settle()
        left = [Fraction(*debt) for debt in house.debts()]
        for payer, receiver, paid in told:
            self.assertLess(house.debts()[payer][0], 0)
            self.assertGreater(house.debts()[receiver][0], 0)
            self.assertGreater(paid[0], 0)
            left[payer] += Fraction(*paid)
            left[receiver] -= Fraction(*paid)
        self.assertEqual(left, [0] * n)
        self.assertEqual(told, sorted(told, key=lambda item: item[:2]))
        self.assertEqual(len({item[:2] for item in told}), len(told))
        self.assertLess(len(told), n)
        self.assertTrue(is_same(told, reckoned_settle(house.debts())))
        return len(told)

    def test_houses_of_all_sizes(self):
        chance = Random(8)
        longest = 0
        for n in range(1, 13):
            for _ in range(6):
                policy = some_policy(chance)
                house, reckoned = House(n, policy), Reckoned(n, policy)
                for _ in range(12):
                    self.do_something(house, reckoned, chance)
                    longest = max(longest, self.settled(n, house))
        self.assertGreater(longest, 6)

    def test_the_least_pays_to_the_least(self):
        house = House(4, Policy(4, (("weight", ONE),)))
        house.beat(noughts(4))
        self.assertEqual(house.debts(), ((-3, 4), (1, 4), (1, 4), (1, 4)))
        self.assertEqual(house.settle(), [(0, 1, (1, 4)), (0, 2, (1, 4)), (0, 3, (1, 4))])
        house.beat(noughts(4))
        self.assertEqual(house.settle(), [(0, 2, (1, 2)), (1, 3, (1, 2))])
        house.beat(noughts(4))
        self.assertEqual(house.settle(), [(0, 3, (1, 4)), (1, 3, (1, 4)), (2, 3, (1, 4))])
        house.beat(noughts(4))
        self.assertEqual(house.settle(), [])

    def test_nobody_pays_by_asking(self):
        house = House(2, ALIKE)
        house.beat((0, 0))
        self.assertEqual(house.settle(), house.settle())
        self.assertEqual(house.debts(), ((-1, 2), (1, 2)))


if __name__ == "__main__":
    unittest.main()
