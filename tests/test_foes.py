"""Point 5.1: foes, which make a row while a dealer's way deals."""

import unittest
from fractions import Fraction
from random import Random

from harmonicdues import foes as module
from harmonicdues.dealing import debts_behind, most
from harmonicdues.errors import BadWay, NoNumber, NoPeople, NoPerson, NoRow
from harmonicdues.foes import against, is_against
from tests.things import (
    all_kinds, is_same, no_integers, no_people, no_persons, otherwise, pair_of, pairs_of, snapshot, told_by,
)

BEATS = tuple(range(1, 13)) + (400,)
OF_THREE = (((3, (1, 1, 1)), (2, (0, 1, 1))), [0, 0], 1, (5, 6))


def greatest_way(view):
    debts, (bottom, tops), _ = view
    grown = [Fraction(*debt) + Fraction(top, bottom) for debt, top in zip(debts, tops)]
    return grown.index(max(grown))


def least_way(view):
    debts, (bottom, tops), _ = view
    grown = [Fraction(*debt) + Fraction(top, bottom) for debt, top in zip(debts, tops)]
    return grown.index(min(grown))


def shareless_way(view):
    """To the greatest number of one without a share, to the last one if there is none."""
    _, (_, tops), _ = view
    without = [person for person, top in enumerate(tops) if top == 0]
    return without[-1] if without else len(tops) - 1


def in_turn(view):
    return view[2] % len(view[0])


def by_table(table):
    return lambda view: table[view[2]]


def ways(n, chance):
    """Ways of all kinds for n people, each with whether it is by a table."""
    yield from (greatest_way, least_way, shareless_way, in_turn, lambda view: 0, lambda view: n - 1)
    for _ in range(4):
        yield by_table([chance.randrange(n) for _ in range(11)])


class Reckoned:
    """A foe reckoned with Python's own fractions and a set as the group."""

    def __init__(self, n, beats, way):
        self.debts = [Fraction(0)] * n
        self.row, self.deals, self.views = [], [], []
        group = set(range(n if n < beats + 1 else beats + 1))
        while len(group) > 1:
            shares = (len(group), tuple(int(person in group) for person in range(n)))
            self.views.append((pairs_of(self.debts), shares, len(self.row)))
            person = way(self.views[-1])
            for other in group:
                self.debts[other] += Fraction(1, len(group))
            self.debts[person] -= 1
            self.row.append(shares)
            self.deals.append(person)
            group.discard(person if person in group else max(group))
        self.person = group.pop()

    def told(self):
        return (tuple(self.row), self.deals, self.person, pair_of(self.debts[self.person]))


def from_deals(n, beats, thing):
    """Whether a thing is what against tells of some way, reckoned anew from its deals."""
    if type(thing) is not tuple or len(thing) != 4 or type(thing[1]) is not list:
        return False
    deals = thing[1]
    if len(deals) != min(n - 1, beats) or not all(type(deal) is int and 0 <= deal < n for deal in deals):
        return False
    return is_same(thing, Reckoned(n, beats, by_table(deals)).told())


class Interface(unittest.TestCase):
    def test_functions_stand_in_their_module(self):
        for name in ("against", "is_against"):
            self.assertEqual(getattr(module, name).__module__, "harmonicdues.foes")


class Against(unittest.TestCase):
    def test_the_example_of_the_document(self):
        self.assertTrue(is_same(against(3, 9, lambda view: 0), OF_THREE))

    def test_ways_of_all_kinds(self):
        chance = Random(1)
        for n in range(1, 13):
            for beats in BEATS:
                for way in ways(n, chance):
                    told = against(n, beats, way)
                    self.assertTrue(is_same(told, Reckoned(n, beats, way).told()))

    def test_all_tables_of_few_people(self):
        for n in (1, 2, 3):
            for at in range(n ** 2):
                table = [at % n, at // n]
                for beats in (1, 2, 3):
                    told = against(n, beats, by_table(table))
                    self.assertTrue(is_same(told, Reckoned(n, beats, by_table(table)).told()))

    def test_the_debt_is_just_most(self):
        chance = Random(2)
        for n in range(1, 13):
            for beats in BEATS:
                for way in ways(n, chance):
                    row, deals, person, debt = against(n, beats, way)
                    self.assertEqual(debt, most(n, beats))
                    self.assertLessEqual(len(row), beats)
                    if row:
                        self.assertEqual(debts_behind(n, row, deals)[-1][person], debt)

    def test_the_way_is_shown_just_this_beat_by_beat(self):
        chance = Random(3)
        for n in range(1, 13):
            for beats in (1, 2, 5, 12, 400):
                for way in ways(n, chance):
                    seen = []

                    def looking(view):
                        seen.append(view)
                        return way(view)

                    told = against(n, beats, looking)
                    self.assertTrue(is_same(seen, Reckoned(n, beats, way).views))
                    self.assertEqual([view[1] for view in seen], list(told[0]))

    def test_one_person(self):
        for beats in BEATS:
            told = against(1, beats, lambda view: self.fail("asked"))
            self.assertTrue(is_same(told, ((), [], 0, (0, 1))))

    def test_a_group_of_one_ends_it(self):
        self.assertTrue(is_same(against(5, 1, lambda view: 0), (((2, (1, 1, 0, 0, 0)),), [0], 1, (1, 2))))
        self.assertTrue(is_same(against(2, 400, lambda view: 1), (((2, (1, 1)),), [1], 0, (1, 2))))

    def test_who_gets_it_leaves_the_group(self):
        row, deals, person, _ = against(4, 3, by_table([1, 3, 0]))
        self.assertEqual(row, ((4, (1, 1, 1, 1)), (3, (1, 0, 1, 1)), (2, (1, 0, 1, 0))))
        self.assertEqual((deals, person), ([1, 3, 0], 2))

    def test_who_gets_it_is_not_of_the_group(self):
        row, deals, person, debt = against(5, 3, by_table([4, 4, 4]))
        self.assertEqual(row, ((4, (1, 1, 1, 1, 0)), (3, (1, 1, 1, 0, 0)), (2, (1, 1, 0, 0, 0))))
        self.assertEqual((deals, person, debt), ([4, 4, 4], 0, (13, 12)))
        row, deals, person, debt = against(4, 9, by_table([1, 1, 1]))
        self.assertEqual(row, ((4, (1, 1, 1, 1)), (3, (1, 0, 1, 1)), (2, (1, 0, 1, 0))))
        self.assertEqual((deals, person, debt), ([1, 1, 1], 0, (13, 12)))

    def test_lists_are_new_each_time(self):
        one, other = against(3, 9, lambda view: 0), against(3, 9, lambda view: 0)
        self.assertIsNot(one[1], other[1])
        one[1].append(1)
        one[1][0] = 2
        self.assertEqual((other, against(3, 9, lambda view: 0)), (OF_THREE, OF_THREE))
        against(1, 1, greatest_way)[1].append(0)
        self.assertEqual(against(1, 1, greatest_way)[1], [])


class NoFoe(unittest.TestCase):
    def test_no_people(self):
        for n in no_people():
            for beats in (1, 400, 0, None):
                self.assertEqual(told_by(against, n, beats, greatest_way), (NoPeople,))
                self.assertEqual(told_by(is_against, n, beats, OF_THREE), (NoPeople,))

    def test_no_number(self):
        for n in (1, 2, 12):
            for beats in [0, 401, -1, 402, 10 ** 9, 10 ** 59, -(10 ** 59)] + no_integers():
                self.assertEqual(told_by(against, n, beats, lambda view: self.fail("asked")), (NoNumber,))
                self.assertEqual(told_by(is_against, n, beats, OF_THREE), (NoNumber,))
                self.assertEqual(told_by(is_against, n, beats, None), (NoNumber,))

    def test_all_beats_that_are_let(self):
        for beats in range(1, 401):
            self.assertEqual(len(against(3, beats, in_turn)[0]), min(2, beats))

    def test_a_way_that_tells_no_person(self):
        for n in (2, 3, 5, 12):
            for at in range(n - 1):
                for thing in no_persons(n):
                    def wrong(view):
                        return thing if view[2] >= at else 0

                    self.assertEqual(told_by(against, n, 400, wrong), (BadWay, at))

    def test_the_beat_of_a_way_that_tells_no_person_once(self):
        for at in range(11):
            table = [0] * 11
            table[at] = 12
            self.assertEqual(told_by(against, 12, 11, by_table(table)), (BadWay, at))
            if at > 0:
                self.assertIsNone(told_by(against, 12, at, by_table(table)))

    def test_it_is_not_asked_behind_this_beat(self):
        seen = []

        def wrong(view):
            seen.append(view[2])
            return None if view[2] == 2 else 1

        self.assertEqual(told_by(against, 9, 9, wrong), (BadWay, 2))
        self.assertEqual(seen, [0, 1, 2])

    def test_errors_of_its_own_go_on(self):
        for error in (
            KeyError("a"), ZeroDivisionError(), ValueError("b"), NoPerson(), NoRow(3), BadWay(7), StopIteration(),
        ):
            for at in (0, 3):
                def wrong(view):
                    if view[2] == at:
                        raise error
                    return 0

                with self.assertRaises(type(error)) as context:
                    against(6, 6, wrong)
                self.assertIs(context.exception, error)

    def test_what_it_tells_is_not_changed(self):
        told = [0, [1]]
        self.assertEqual(told_by(against, 3, 3, lambda view: told), (BadWay, 0))
        self.assertEqual(told, [0, [1]])


class IsAgainst(unittest.TestCase):
    def test_what_against_told(self):
        chance = Random(4)
        for n in range(1, 13):
            for beats in BEATS:
                for way in ways(n, chance):
                    self.assertIs(is_against(n, beats, against(n, beats, way)), True)

    def test_one_thing_otherwise(self):
        chance = Random(5)
        right = 0
        for n in (1, 2, 3, 4, 6):
            for beats in (1, 2, 3, 9):
                for way in ways(n, chance):
                    for thing in otherwise(against(n, beats, way)):
                        told = is_against(n, beats, thing)
                        self.assertIs(told, from_deals(n, beats, thing))
                        right += told
        self.assertGreater(right, 0)

    def test_other_deals_out_of_the_group(self):
        row, deals, person, debt = against(5, 2, by_table([4, 4]))
        for one in range(5):
            for other in range(5):
                thing = (row, [one, other], person, debt)
                self.assertIs(is_against(5, 2, thing), from_deals(5, 2, thing))
        self.assertIs(is_against(5, 2, (row, [3, 4], person, debt)), True)
        self.assertIs(is_against(5, 2, (row, [4, 3], person, debt)), True)
        self.assertIs(is_against(5, 2, (row, [0, 4], person, debt)), False)

    def test_flags_for_numbers(self):
        row, deals, person, debt = OF_THREE
        for thing in (
            (row, [False, 0], person, debt), (row, [0, False], person, debt), (row, deals, True, debt),
            (((3, (True, 1, 1)), row[1]), deals, person, debt), ((row[0], (2, (False, 1, 1))), deals, person, debt),
        ):
            self.assertTrue(thing == OF_THREE)
            self.assertIs(is_against(3, 9, thing), False)
        self.assertIs(is_against(1, 1, ((), [], 0, (0, 1))), True)
        for thing in (((), [], False, (0, 1)), ((), [], 0, (False, 1)), ((), [], 0, (0, True))):
            self.assertIs(is_against(1, 1, thing), False)

    def test_other_people_and_other_beats(self):
        for n in range(1, 13):
            for beats in BEATS:
                told = against(n, beats, greatest_way)
                for other in range(1, 13):
                    for more in BEATS:
                        self.assertIs(is_against(other, more, told), from_deals(other, more, told))

    def test_a_debt_not_in_lowest_terms(self):
        row, deals, person, _ = OF_THREE
        for debt in ((10, 12), (-5, -6), [5, 6], (5, 6, 1), (5,), (1, 2), (4, 6), 1, None):
            self.assertIs(is_against(3, 9, (row, deals, person, debt)), False)

    def test_more_and_fewer_beats(self):
        for thing in (
            (OF_THREE[0] + ((1, (0, 1, 0)),), [0, 0, 1], 1, (5, 6)), (OF_THREE[0][:1], [0], 1, (1, 3)),
            (OF_THREE[0], [0], 1, (5, 6)), (OF_THREE[0], [0, 0, 0], 1, (5, 6)), ((), [], 0, (0, 1)),
            (OF_THREE[0][:1], [0, 0], 1, (5, 6)),
        ):
            self.assertIs(is_against(3, 9, thing), False)

    def test_things_of_all_kinds(self):
        for thing in all_kinds():
            for n in (1, 2, 3):
                self.assertIs(is_against(n, 3, thing), False)
            for at in range(4):
                told = is_against(3, 9, OF_THREE[:at] + (thing,) + OF_THREE[at + 1:])
                self.assertIs(told, at == 2 and is_same(thing, 1))
            if type(thing) is not int:
                self.assertIs(is_against(3, 9, (OF_THREE[0], [0, thing], 1, (5, 6))), False)

    def test_nothing_is_changed(self):
        for thing in ([OF_THREE[0], [0, 0], 1, (5, 6)], (OF_THREE[0], [0, [0]], 1, (5, 6)), OF_THREE):
            ahead = snapshot(thing)
            is_against(3, 9, thing)
            self.assertEqual(thing, ahead)


if __name__ == "__main__":
    unittest.main()
