"""Points 6.1 and 6.2: plans for rows that are known ahead, and the windows of things."""

import itertools
import unittest
from fractions import Fraction
from math import ceil, floor
from random import Random

from harmonicdues import ahead as module
from harmonicdues.ahead import astray, is_plan, plan, windows
from harmonicdues.dealing import dealt
from harmonicdues.errors import NoPeople, NoPerson, NoPlan, NoRow, NoThings
from tests.things import (
    all_kinds, is_same, no_integers, no_people, no_persons, no_rows, otherwise, snapshot, some_row, some_shares,
    told_by,
)

HALVES = (2, (1, 1))
THREE = (HALVES,) * 3
KEPT = ((0,), (1,), (1,))
NAMES = ("is_plan", "plan", "astray", "windows")


def sums_of(n, row):
    """The list, beat by beat, of what each one has got in all, in Python's own fractions."""
    sums, behind = [Fraction(0)] * n, []
    for bottom, tops in row:
        sums = [had + Fraction(top, bottom) for had, top in zip(sums, tops)]
        behind.append(sums)
    return behind


def reckoned_astray(n, row, lots):
    for beat, sums in enumerate(sums_of(n, row)):
        for person in range(n):
            things = sum(person in lot for lot in lots[:beat + 1])
            if things not in (floor(sums[person]), ceil(sums[person])):
                return (beat, person)
    return None


def reckoned_windows(n, row, person):
    """The windows of a person, thing by thing."""
    sums = [behind[person] for behind in sums_of(n, row)]
    told = []
    for thing in range(1, len(row) + 2):
        begun = [beat for beat, got in enumerate(sums) if got > thing - 1]
        ended = [beat for beat, got in enumerate(sums) if got >= thing]
        if begun:
            told.append((begun[0], ended[0] if ended else None))
    return told


def fits_windows(n, m, row, lots):
    """Whether each one gets its things in their order, each within its window, and no more."""
    for person in range(n):
        beats = [beat for beat, lot in enumerate(lots) if person in lot]
        its_windows = windows(n, m, row, person)
        if len(beats) > len(its_windows):
            return False
        for at, (first, last) in enumerate(its_windows):
            if at < len(beats):
                if not first <= beats[at] <= (len(row) if last is None else last):
                    return False
            elif last is not None:
                return False
    return True


def lots_of(n, m):
    return list(itertools.combinations(range(n), m))


def sizes(most=12):
    return [(n, m) for n in range(1, most + 1) for m in range(1, n + 1)]


def whole(n, m, chance):
    """Shares of whole things and of nothing."""
    people = chance.sample(range(n), m)
    bottom = chance.choice((1, 2, 7, 360))
    return (bottom, tuple(bottom if person in people else 0 for person in range(n)))


def rows(n, m, beats, chance):
    """Rows of all kinds."""
    yield some_row(n, m, beats, chance)
    yield (some_shares(n, m, chance.choice((2, 3, 5, 7, 12)), chance),) * beats
    yield tuple(whole(n, m, chance) for _ in range(beats))
    yield tuple(chance.choice((whole, lambda *given: some_shares(*given[:2], 6, chance)))(n, m, chance)
                for _ in range(beats))
    yield ((n, (m,) * n),) * beats


def exchanged(lots, chance):
    """Lots with two beats exchanged."""
    one, other = chance.randrange(len(lots)), chance.randrange(len(lots))
    told = list(lots)
    told[one], told[other] = told[other], told[one]
    return tuple(told)


def no_plans(n, m, beats):
    """Things of all kinds that are no lots of m people for so many beats, of which there is one at least."""
    first, last = tuple(range(m)), tuple(range(n - m, n))
    right = (first,) * beats
    wrong = [thing for thing in all_kinds() if thing != ()] + [
        list(right), right[1:], right + (first,), [first] * beats, (list(first),) * beats, (first + (n,),) * beats,
        (first[1:],) * beats, right[1:] + (first[1:],), right[1:] + (first + first[:1],), right[1:] + (None,),
        right[1:] + ((),), right[1:] + (list(last),), right[1:] + (range(m),), right[1:] + ((-1,) + first[1:],),
        right[1:] + (last[:-1] + (n,),), (dict.fromkeys(first),) + right[1:], dict.fromkeys(range(beats), first),
        right[1:] + ((None,) + first[1:],), right[1:] + (("0",) + first[1:],), right[1:] + ((False,) + first[1:],),
    ]
    if m > 1:
        wrong += [right[1:] + (first[::-1],), right[1:] + ((first[0],) * m,), right[1:] + (first[:-1] + (True,),)]
    else:
        wrong += [right[1:] + (0,), (0,) * beats, right[1:] + ((0, 1),), right[1:] + ((0, 0),), right[1:] + ((False,),)]
    return wrong


class Interface(unittest.TestCase):
    def test_functions_stand_in_their_module(self):
        for name in NAMES:
            self.assertEqual(getattr(module, name).__module__, "harmonicdues.ahead")


class Refused(unittest.TestCase):
    """What all four refuse, in its order."""

    def refused(self, told, n, m, row):
        for last in (None, (), 0, KEPT):
            self.assertEqual(told_by(is_plan, n, m, row, last), told)
            self.assertEqual(told_by(astray, n, m, row, last), told)
            self.assertEqual(told_by(windows, n, m, row, last), told)
        self.assertEqual(told_by(plan, n, m, row), told)

    def test_no_people(self):
        for n in no_people():
            self.refused((NoPeople,), n, 1, ())
            self.refused((NoPeople,), n, None, None)

    def test_no_things(self):
        for n in (1, 2, 12):
            for m in [0, -1, n + 1, 13, 10 ** 59] + no_integers():
                self.refused((NoThings,), n, m, ())
                self.refused((NoThings,), n, m, None)

    def test_no_row(self):
        for row, at in no_rows():
            self.refused((NoRow, at), 2, 1, row)
        self.refused((NoRow, 0), 2, 2, (HALVES,))
        self.refused((NoRow, 1), 2, 2, ((1, (1, 1)), HALVES))
        self.refused((NoRow, -1), 3, 2, ((1, (1, 1, 0)),) * 401)

    def test_no_person(self):
        for n in (1, 2, 12):
            for person in no_persons(n):
                self.assertEqual(told_by(windows, n, n, ((1, (1,) * n),), person), (NoPerson,))
                self.assertEqual(told_by(windows, n, 1, (), person), (NoPerson,))

    def test_sizes_that_are_let(self):
        for n, m in sizes():
            row = ((1, (1,) * m + (0,) * (n - m)),)
            lots = (tuple(range(m)),)
            self.assertEqual(plan(n, m, row), lots)
            self.assertIs(is_plan(n, m, row, lots), True)
            self.assertIsNone(astray(n, m, row, lots))
            for person in range(n):
                self.assertEqual(windows(n, m, row, person), [(0, 0)] if person < m else [])


class IsPlan(unittest.TestCase):
    def test_the_example_of_the_document(self):
        told = (windows(2, 1, THREE, 0), is_plan(2, 1, THREE, KEPT), is_plan(2, 1, THREE, ((0,), (0,), (1,))))
        self.assertTrue(is_same(told, ([(0, 1), (2, None)], True, False)))

    def test_all_lots_of_small_rows(self):
        chance = Random(1)
        kept = 0
        for n, m, beats in (
            (1, 1, 3), (2, 1, 6), (2, 2, 3), (3, 1, 4), (3, 2, 4), (3, 3, 2), (4, 2, 3), (4, 3, 3), (5, 2, 2),
        ):
            for row in rows(n, m, beats, chance):
                for lots in itertools.product(lots_of(n, m), repeat=beats):
                    told = reckoned_astray(n, row, lots)
                    self.assertIs(is_plan(n, m, row, lots), told is None)
                    self.assertTrue(is_same(astray(n, m, row, lots), told))
                    kept += told is None
        self.assertGreater(kept, 100)

    def test_no_beat(self):
        for n, m in sizes():
            self.assertIs(is_plan(n, m, (), ()), True)
            self.assertIsNone(astray(n, m, (), ()))
            for thing in all_kinds() + [((),), ((0,),), [], [()]]:
                if not is_same(thing, ()):
                    self.assertIs(is_plan(n, m, (), thing), False)
                    self.assertEqual(told_by(astray, n, m, (), thing), (NoPlan,))

    def test_no_plan(self):
        chance = Random(2)
        for n, m, beats in ((2, 1, 1), (2, 1, 3), (3, 2, 2), (12, 5, 4), (4, 4, 2), (12, 1, 2)):
            row = some_row(n, m, beats, chance)
            for thing in no_plans(n, m, beats):
                with self.subTest(n=n, m=m, thing=str(thing)[:60]):
                    self.assertIs(is_plan(n, m, row, thing), False)
                    self.assertEqual(told_by(astray, n, m, row, thing), (NoPlan,))

    def test_one_thing_otherwise(self):
        chance = Random(3)
        for n, m, beats in ((2, 1, 3), (3, 2, 4), (4, 3, 3), (5, 1, 5)):
            for row in rows(n, m, beats, chance):
                for thing in otherwise(plan(n, m, row)):
                    right = type(thing) is tuple and len(thing) == beats and all(
                        any(is_same(lot, other) for other in lots_of(n, m)) for lot in thing
                    )
                    told = reckoned_astray(n, row, thing) if right else (NoPlan,)
                    self.assertIs(is_plan(n, m, row, thing), told is None)
                    if right:
                        self.assertTrue(is_same(astray(n, m, row, thing), told))
                    else:
                        self.assertEqual(told_by(astray, n, m, row, thing), told)

    def test_lots_of_another_number_of_things(self):
        for n, m in sizes(5):
            row = ((n, (m,) * n),)
            for other in range(n + 1):
                for lot in lots_of(n, other):
                    self.assertIs(is_plan(n, m, row, (lot,)), other == m)
                    self.assertEqual(told_by(astray, n, m, row, (lot,)), None if other == m else (NoPlan,))

    def test_the_first_beat_and_the_least_person(self):
        self.assertEqual(astray(3, 1, ((3, (1, 1, 1)),) * 3, ((2,), (2,), (0,))), (1, 2))
        self.assertEqual(astray(3, 1, ((3, (1, 1, 1)),) * 3, ((2,), (1,), (1,))), (2, 0))
        self.assertEqual(astray(2, 1, ((1, (1, 0)),), ((1,),)), (0, 0))
        self.assertEqual(astray(3, 1, ((1, (0, 1, 0)),), ((0,),)), (0, 0))
        self.assertEqual(astray(3, 1, ((1, (0, 0, 1)),), ((1,),)), (0, 1))
        self.assertEqual(astray(3, 2, ((1, (0, 1, 1)), (1, (1, 1, 0))), ((1, 2), (0, 2))), (1, 1))
        self.assertEqual(astray(2, 1, (HALVES,) * 4, ((0,), (1,), (1,), (1,))), (3, 0))

    def test_too_few_too_many_and_just(self):
        # Behind two beats person 0 has 2/3, so none and one are right, and behind three just one.
        row = ((3, (1, 2)),) * 3
        for lots in itertools.product(((0,), (1,)), repeat=3):
            self.assertIs(is_plan(2, 1, row, lots), [lot[0] for lot in lots].count(0) == 1)
        row = ((3, (1, 2)), (3, (2, 1)))
        self.assertIs(is_plan(2, 1, row, ((0,), (1,))), True)
        self.assertIs(is_plan(2, 1, row, ((1,), (0,))), True)
        self.assertIs(is_plan(2, 1, row, ((1,), (1,))), False)

    def test_things_of_all_kinds(self):
        for thing in all_kinds():
            if not is_same(thing, ()):
                self.assertIs(is_plan(2, 1, THREE, thing), False)
                self.assertIs(is_plan(2, 1, THREE, ((0,), (1,), thing)), is_same(thing, (1,)))
            self.assertIs(is_plan(2, 1, THREE, ((0,), (1,), (thing,))), is_same(thing, 0) or is_same(thing, 1))

    def test_nothing_is_changed(self):
        for thing in ([[0], [1], [1]], ([0], [1], [1]), [(0,), (1,), (1,)], KEPT):
            ahead = snapshot(thing)
            is_plan(2, 1, THREE, thing)
            told_by(astray, 2, 1, THREE, thing)
            self.assertEqual(thing, ahead)


class Plans(unittest.TestCase):
    def keeps(self, n, m, row):
        told = plan(n, m, row)
        self.assertIs(type(told), tuple)
        self.assertEqual(len(told), len(row))
        for lot in told:
            self.assertIs(type(lot), tuple)
            self.assertEqual([type(person) for person in lot], [int] * m)
            self.assertEqual(list(lot), sorted(set(lot)))
            self.assertLess(max(lot), n)
        self.assertIsNone(reckoned_astray(n, row, told))
        self.assertIs(is_plan(n, m, row, told), True)
        self.assertIsNone(astray(n, m, row, told))
        self.assertTrue(is_same(plan(n, m, row), told))
        return told

    def test_rows_of_all_sizes(self):
        chance = Random(4)
        for n, m in sizes():
            for beats in (0, 1, 2, 9):
                for row in rows(n, m, beats, chance):
                    self.keeps(n, m, row)

    def test_many_small_rows(self):
        chance = Random(5)
        for _ in range(1500):
            n = chance.randint(1, 6)
            m = chance.randint(1, n)
            self.keeps(n, m, tuple(
                some_shares(n, m, chance.choice((1, 2, 3, 3, 4, 5, 7)), chance) for _ in range(chance.randint(1, 8))
            ))

    def test_rows_in_which_one_stays_behind_another(self):
        # Small shares that many people have first, so that who waits too long gets nothing in time.
        for n in range(2, 13):
            for m in range(1, n):
                slow = (n, (m,) * n)
                fast = (1, (1,) * m + (0,) * (n - m))
                late = (1, (0,) * (n - m) + (1,) * m)
                for row in ((slow, fast, slow, late) * 5, (slow, late, fast) * 6, (fast, slow, slow, late, slow) * 4):
                    self.keeps(n, m, row)

    def keeps_long(self, n, m, row):
        told = plan(n, m, row)
        self.assertIs(is_plan(n, m, row, told), True)
        self.assertEqual(told, plan(n, m, row))

    def test_four_hundred_beats(self):
        chance = Random(6)
        for n, m in ((1, 1), (2, 1), (3, 2), (5, 3), (12, 1), (12, 6), (12, 11), (12, 12)):
            for row in rows(n, m, 400, chance):
                self.keeps_long(n, m, row)
            self.keeps_long(n, m, tuple(some_shares(n, m, chance.randint(1, 360), chance) for _ in range(400)))

    def test_whole_things(self):
        chance = Random(7)
        for n, m in sizes(6):
            row = tuple(whole(n, m, chance) for _ in range(12))
            lots = tuple(tuple(person for person in range(n) if tops[person]) for _, tops in row)
            self.assertTrue(is_same(plan(n, m, row), lots))

    def test_all_of_the_people(self):
        for n in range(1, 13):
            row = tuple((bottom, (bottom,) * n) for bottom in (1, 2, 360))
            self.assertEqual(plan(n, n, row), (tuple(range(n)),) * 3)

    def test_dealing_to_the_greatest_debt_may_go_astray(self):
        # Behind three beats person 3 has got 1/4 + 1/3 + 1/2 of a thing and none of the things.
        row = ((4, (1, 1, 1, 1)), (3, (0, 1, 1, 1)), (2, (0, 0, 1, 1)))
        self.assertEqual(dealt(4, row), [0, 1, 2])
        self.assertEqual(astray(4, 1, row, ((0,), (1,), (2,))), (2, 3))
        self.keeps(4, 1, row)


class Windows(unittest.TestCase):
    def test_rows_of_all_sizes(self):
        chance = Random(9)
        for n, m in sizes():
            for beats in (0, 1, 7):
                for row in rows(n, m, beats, chance):
                    for person in range(n):
                        self.assertTrue(is_same(windows(n, m, row, person), reckoned_windows(n, row, person)))

    def test_four_hundred_beats(self):
        row = (HALVES,) * 400
        self.assertEqual(windows(2, 1, row, 1), [(2 * at, 2 * at + 1) for at in range(200)])
        row = ((360, (359, 1)),) * 400
        self.assertEqual(windows(2, 1, row, 1), [(0, 359), (360, None)])
        told = windows(2, 1, row, 0)
        # Person 0 has got a whole thing less than there were beats behind beat 359.
        self.assertEqual(told[:3], [(0, 1), (1, 2), (2, 3)])
        self.assertEqual(told[358], (358, 359))
        self.assertEqual(told[359:], [(at, at + 1) for at in range(360, 399)] + [(399, None)])

    def test_small_rows(self):
        self.assertEqual(windows(2, 1, ((1, (1, 0)),) * 2, 0), [(0, 0), (1, 1)])
        self.assertEqual(windows(2, 1, ((1, (1, 0)),) * 2, 1), [])
        self.assertEqual(windows(2, 1, ((3, (2, 1)),) * 4, 0), [(0, 1), (1, 2), (3, None)])
        self.assertEqual(windows(2, 1, ((3, (2, 1)),) * 4, 1), [(0, 2), (3, None)])
        self.assertEqual(windows(2, 1, ((3, (0, 3)), (3, (1, 2)), (3, (0, 3)), (3, (2, 1))), 0), [(1, 3)])
        self.assertEqual(windows(3, 2, ((2, (1, 1, 2)), (2, (2, 1, 1))), 0), [(0, 1), (1, None)])

    def test_windows_within_the_same_beat(self):
        row = ((3, (2, 1)), (3, (2, 1)))
        self.assertEqual(windows(2, 1, row, 0), [(0, 1), (1, None)])

    def test_kinds_of_what_is_told(self):
        told = windows(2, 1, THREE, 0)
        self.assertTrue(is_same(told, [(0, 1), (2, None)]))

    def test_lists_are_new_each_time(self):
        one, other = windows(2, 1, THREE, 0), windows(2, 1, THREE, 0)
        self.assertIsNot(one, other)
        one.append(None)
        one[0] = None
        self.assertEqual((other, windows(2, 1, THREE, 0)), ([(0, 1), (2, None)],) * 2)
        windows(2, 1, (), 0).append(1)
        self.assertEqual(windows(2, 1, (), 0), [])


class StepOfWindows(unittest.TestCase):
    def test_all_lots_of_small_rows(self):
        chance = Random(10)
        for n, m, beats in ((2, 1, 5), (3, 1, 4), (3, 2, 3), (4, 2, 2)):
            for row in rows(n, m, beats, chance):
                for lots in itertools.product(lots_of(n, m), repeat=beats):
                    self.assertIs(is_plan(n, m, row, lots), fits_windows(n, m, row, lots))

    def test_plans_and_plans_with_two_beats_exchanged(self):
        chance = Random(11)
        kept = [0, 0]
        for n, m in sizes():
            for row in rows(n, m, 12, chance):
                lots = plan(n, m, row)
                self.assertTrue(fits_windows(n, m, row, lots))
                for _ in range(5):
                    other = exchanged(lots, chance)
                    told = is_plan(n, m, row, other)
                    self.assertIs(told, fits_windows(n, m, row, other))
                    kept[told] += 1
        self.assertGreater(min(kept), 50)


if __name__ == "__main__":
    unittest.main()
