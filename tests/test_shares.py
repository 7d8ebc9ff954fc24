"""Point 1.1: shares, rows, and what is got."""

import itertools
import unittest
from fractions import Fraction
from math import gcd
from random import Random

from harmonicdues import shares as module
from harmonicdues.errors import NoPeople, NoRow, NoThings
from harmonicdues.shares import got, got_by, is_row, is_shares
from tests.things import (
    all_kinds, deep_things, no_integers, other_things, pairs_of, snapshot, some_row, some_shares, told_by, tuples,
)

ALL_OF_THEM = (is_shares, is_row, got, got_by)
HALVES = (2, (1, 1))


def first_ones(n, m, bottom):
    """Shares by which the first m people get a whole thing each."""
    return (bottom, (bottom,) * m + (0,) * (n - m))


def reckoned(n, row):
    """What got_by has to tell, reckoned with Python's own fractions."""
    sums, behind = [Fraction(0)] * n, []
    for bottom, tops in row:
        sums = [had + Fraction(top, bottom) for had, top in zip(sums, tops)]
        behind.append(pairs_of(sums))
    return behind


def sizes():
    return [(n, m) for n in range(1, 13) for m in range(1, n + 1)]


class Interface(unittest.TestCase):
    def test_functions_stand_in_their_module(self):
        for name in ("is_shares", "is_row", "got", "got_by"):
            self.assertEqual(getattr(module, name).__module__, "harmonicdues.shares")


class People(unittest.TestCase):
    """NoPeople and NoThings, by all four functions."""

    def test_one_to_twelve_people(self):
        for n in range(1, 13):
            for call in ALL_OF_THEM:
                with self.subTest(n, call=call.__name__):
                    self.assertIsNone(told_by(call, n, 1, ()))

    def test_no_people(self):
        for n in [0, 13, -1, -12, 14, 360, 10 ** 59, -(10 ** 59)] + no_integers():
            for call in ALL_OF_THEM:
                with self.subTest(kind=type(n).__name__, call=call.__name__):
                    self.assertEqual(told_by(call, n, 1, ()), (NoPeople,))

    def test_one_to_all_things(self):
        for n, m in sizes():
            for call in ALL_OF_THEM:
                with self.subTest(n, m=m, call=call.__name__):
                    self.assertIsNone(told_by(call, n, m, ()))

    def test_no_things(self):
        for n in range(1, 13):
            for m in (0, -1, n + 1, n + 2, 13, 10 ** 59, -(10 ** 59)):
                for call in ALL_OF_THEM:
                    with self.subTest(n, m=m, call=call.__name__):
                        self.assertEqual(told_by(call, n, m, ()), (NoThings,))

    def test_no_things_of_other_kinds(self):
        for m in no_integers():
            for call in ALL_OF_THEM:
                with self.subTest(kind=type(m).__name__, call=call.__name__):
                    self.assertEqual(told_by(call, 3, m, ()), (NoThings,))

    def test_people_come_ahead_of_things_and_these_ahead_of_the_row(self):
        for call in ALL_OF_THEM:
            for last in (None, [], (0,), ((2, (1, 1)),), HALVES):
                with self.subTest(call.__name__, last=last):
                    self.assertEqual(told_by(call, 0, 0, last), (NoPeople,))
                    self.assertEqual(told_by(call, 13, True, last), (NoPeople,))
                    self.assertEqual(told_by(call, "2", 1, last), (NoPeople,))
                    self.assertEqual(told_by(call, True, 1, last), (NoPeople,))
                    self.assertEqual(told_by(call, 2, 3, last), (NoThings,))
                    self.assertEqual(told_by(call, 2, True, last), (NoThings,))

    def test_errors_come_also_with_right_shares_and_rows(self):
        self.assertEqual(told_by(is_shares, True, 1, (1, (1,))), (NoPeople,))
        self.assertEqual(told_by(is_shares, 1, True, (1, (1,))), (NoThings,))
        self.assertEqual(told_by(is_shares, 13, 1, first_ones(13, 1, 2)), (NoPeople,))
        self.assertEqual(told_by(is_shares, 2, 0, (2, (0, 0))), (NoThings,))
        for call in (is_row, got, got_by):
            self.assertEqual(told_by(call, 13, 1, (first_ones(13, 1, 2),)), (NoPeople,))
            self.assertEqual(told_by(call, 2, 0, ((2, (0, 0)),)), (NoThings,))


class Shares(unittest.TestCase):
    def right(self, n, m, thing):
        with self.subTest(n, m=m, thing=thing):
            self.assertIs(is_shares(n, m, thing), True)

    def wrong(self, n, m, thing):
        with self.subTest(n, m=m, thing=str(thing)[:60]):
            self.assertIs(is_shares(n, m, thing), False)

    def test_right_ones_of_all_sizes(self):
        chance = Random(1)
        for n, m in sizes():
            for bottom in (1, 2, 7, 360):
                self.right(n, m, some_shares(n, m, bottom, chance))
                self.right(n, m, first_ones(n, m, bottom))
                self.right(n, m, (bottom, first_ones(n, m, bottom)[1][::-1]))

    def test_all_small_things(self):
        for n, bottom in itertools.product(range(1, 4), range(-1, 4)):
            for tops in itertools.product(range(-1, 5), repeat=n):
                for m in range(1, n + 1):
                    fits = bottom > 0 and sum(tops) == m * bottom
                    fits = fits and all(0 <= top <= bottom for top in tops)
                    self.assertIs(is_shares(n, m, (bottom, tops)), fits, (n, m, bottom, tops))

    def test_bottoms(self):
        for bottom in range(1, 361):
            self.right(2, 1, (bottom, (bottom, 0)))
            self.right(3, 2, (bottom, (bottom, 0, bottom)))
        for bottom in (0, -1, -2, 361, 362, 720, 10 ** 59):
            self.wrong(2, 1, (bottom, (bottom, 0)))
            self.wrong(2, 1, (bottom, (0, bottom)))
        self.wrong(1, 1, (0, (0,)))
        self.wrong(2, 1, (361, (361, 0)))
        self.wrong(2, 1, (361, (180, 181)))

    def test_flags(self):
        self.wrong(1, 1, (True, (1,)))
        self.wrong(2, 1, (True, (1, 0)))
        self.wrong(1, 1, (1, (True,)))
        self.wrong(2, 1, (1, (1, False)))
        self.wrong(2, 1, (1, (False, 1)))
        self.wrong(2, 1, (1, (True, 0)))
        self.wrong(2, 1, (2, (True, 1)))
        self.wrong(3, 2, (1, (1, 1, False)))

    def test_tops_above_the_bottom_or_below_nought(self):
        self.wrong(2, 1, (2, (3, -1)))
        self.wrong(2, 1, (2, (-1, 3)))
        self.wrong(2, 2, (2, (3, 1)))
        self.wrong(3, 2, (2, (3, 1, 0)))
        self.wrong(3, 2, (2, (0, 1, 3)))
        self.wrong(3, 1, (5, (4, 2, -1)))
        self.wrong(2, 1, (2, (10 ** 59, 2 - 10 ** 59)))

    def test_one_person_more_or_fewer(self):
        for n, m in sizes():
            _, tops = first_ones(n, m, 6)
            self.wrong(n, m, (6, tops + (0,)))
            self.wrong(n, m, (6, tops[:-1]))
            self.wrong(n, m, (6, ()))
        self.wrong(2, 1, (6, (6,)))
        self.wrong(3, 1, (6, (3, 3)))
        self.wrong(2, 1, (6, (2, 2, 2)))

    def test_a_sum_that_is_one_off(self):
        chance = Random(2)
        for n, m in sizes():
            for bottom in (1, 5, 360):
                _, tops = some_shares(n, m, bottom, chance)
                for i in range(n):
                    self.wrong(n, m, (bottom, tops[:i] + (tops[i] + 1,) + tops[i + 1:]))
                    self.wrong(n, m, (bottom, tops[:i] + (tops[i] - 1,) + tops[i + 1:]))

    def test_shares_of_more_or_fewer_things(self):
        for n, m in sizes():
            for other in range(0, n + 1):
                if other != m:
                    self.wrong(n, m, first_ones(n, other, 4))

    def test_other_forms(self):
        for thing in (
            [2, (1, 1)], (2, [1, 1]), [2, [1, 1]], (2,), ((1, 1),), (2, (1, 1), 2), (2, (1, 1), ()),
            (2, 1, 1), ((1, 1), 2), (), ((2, (1, 1)),), (2, ((1, 1),)), (2, (1, (1,))), {0: 2, 1: (1, 1)},
            (2, {0: 1, 1: 1}), (2, range(2)), (2, "11"), ("2", (1, 1)), (2, ("1", "1")), (2, b"\1\1"),
            (2, (1, None)), (None, (1, 1)), ((2, 1), (1, 1)), ([2], (1, 1)), (2, None), (2, 2), (2, ()),
            (2, (1, "1")), (2, ([], 2)), (2, ({}, 2)), "ab", b"ab", 2, -1, range(2),
        ):
            self.wrong(2, 1, thing)

    def test_things_of_all_kinds(self):
        for n, m in ((1, 1), (2, 1), (12, 12)):
            for thing in all_kinds():
                self.wrong(n, m, thing)
            for thing in no_integers():
                self.wrong(n, m, (thing, (1,) * n))
                self.wrong(n, m, (360, thing))
                self.wrong(n, m, (1, (thing,) + (1,) * (n - 1)))
                self.wrong(n, m, (thing, thing))

    def test_a_thing_of_another_kind_among_the_tops(self):
        for thing in no_integers():
            self.wrong(2, 1, (2, (2, thing)))
            self.wrong(2, 1, (2, (thing, 2)))
            self.wrong(2, 1, (thing, (2, 0)))

    def test_nothing_is_changed(self):
        for thing in ([2, [1, 1]], (2, [1, 1]), {0: [2], 1: (1, 1)}, (2, ([1], [1])), [[], {}]):
            ahead = snapshot(thing)
            for _ in range(2):
                self.wrong(2, 1, thing)
            self.assertEqual(thing, ahead)


class Rows(unittest.TestCase):
    def test_rows_of_few_and_many_beats(self):
        for beats in (0, 1, 2, 399, 400):
            self.assertIs(is_row(2, 1, (HALVES,) * beats), True)
            self.assertIsNone(told_by(got, 2, 1, (HALVES,) * beats))
            self.assertIsNone(told_by(got_by, 2, 1, (HALVES,) * beats))
        for beats in (401, 402, 1000):
            self.assertIs(is_row(2, 1, (HALVES,) * beats), False)
            self.refused(2, 1, (HALVES,) * beats, -1)

    def refused(self, n, m, row, at):
        """No row, with this number in NoRow; is_row tells False."""
        self.assertIs(is_row(n, m, row), False)
        for call in (got, got_by):
            told = told_by(call, n, m, row)
            self.assertEqual(told, (NoRow, at))
            self.assertIs(type(told[1]), int)

    def test_rows_of_all_sizes(self):
        chance = Random(3)
        for n, m in sizes():
            row = some_row(n, m, 5, chance)
            self.assertIs(is_row(n, m, row), True)
            self.assertIsNone(told_by(got, n, m, row))
            self.assertIsNone(told_by(got_by, n, m, row))

    def test_shares_with_different_bottoms_make_a_row(self):
        self.assertIs(is_row(2, 1, ((1, (0, 1)), (360, (1, 359)), (2, (1, 1)))), True)

    def test_no_tuple(self):
        for thing in other_things() + [0, 1, -1, [HALVES], {0: HALVES}, {HALVES: 1}, range(0)]:
            with self.subTest(kind=type(thing).__name__):
                self.refused(2, 1, thing, -1)

    def test_the_first_wrong_beat(self):
        for beats in (1, 2, 3, 399, 400):
            for at in {0, 1, beats // 2, beats - 1} & set(range(beats)):
                for wrong in ((2, (1, 2)), None, [2, (1, 1)], (2, [1, 1]), (0, (0, 0)), ()):
                    with self.subTest(beats=beats, at=at, wrong=wrong):
                        row = (HALVES,) * at + (wrong,) + (HALVES,) * (beats - at - 1)
                        self.refused(2, 1, row, at)

    def test_the_first_of_several_wrong_beats(self):
        self.refused(2, 1, (HALVES, None, HALVES, None, (2, (1, 2))), 1)
        self.refused(2, 1, (HALVES, HALVES, (2, (1, 2)), None), 2)
        self.refused(2, 1, (None,) * 400, 0)

    def test_a_longer_one_with_wrong_beats(self):
        self.refused(2, 1, (None,) * 401, -1)
        self.refused(2, 1, (HALVES,) * 400 + (None,), -1)
        self.refused(2, 1, (None,) + (HALVES,) * 400, -1)

    def test_shares_of_other_people_or_things(self):
        self.refused(2, 1, (HALVES, (2, (1, 1, 0))), 1)
        self.refused(2, 1, (HALVES, (2, (2,))), 1)
        self.refused(2, 1, (HALVES, HALVES, (2, (2, 2))), 2)
        self.refused(3, 2, ((2, (2, 2, 0)), (2, (1, 1, 0))), 1)

    def test_shares_alone_are_no_row(self):
        self.refused(2, 1, HALVES, 0)
        self.refused(2, 1, ((HALVES,),), 0)

    def test_beats_of_all_kinds(self):
        for thing in all_kinds():
            with self.subTest(kind=type(thing).__name__):
                self.refused(2, 1, (HALVES, thing, HALVES), 1)

    def test_tuples_of_all_kinds(self):
        for thing in tuples():
            with self.subTest(thing=str(thing)[:60]):
                self.refused(2, 1, thing, 0)
        for thing in deep_things():
            with self.subTest(kind=type(thing).__name__, size=len(thing)):
                self.refused(2, 1, thing, 0 if type(thing) is tuple and len(thing) < 401 else -1)

    def test_nothing_is_changed(self):
        for thing in ([HALVES], [[2, [1, 1]]], (HALVES, [2, [1, 1]]), ((2, [1, 1]),), {0: [HALVES]}):
            ahead = snapshot(thing)
            for call in (is_row, got, got_by):
                told_by(call, 2, 1, thing)
            self.assertEqual(thing, ahead)


class Got(unittest.TestCase):
    def test_small_rows(self):
        self.assertEqual(got(2, 1, (HALVES,)), ((1, 2), (1, 2)))
        self.assertEqual(got(2, 1, (HALVES, HALVES)), ((1, 1), (1, 1)))
        self.assertEqual(got(2, 1, (HALVES, (3, (1, 2)))), ((5, 6), (7, 6)))
        self.assertEqual(got(3, 2, ((4, (4, 3, 1)), (6, (6, 3, 3)))), ((2, 1), (5, 4), (3, 4)))
        self.assertEqual(
            got_by(3, 2, ((4, (4, 3, 1)), (6, (6, 3, 3)))),
            [((1, 1), (3, 4), (1, 4)), ((2, 1), (5, 4), (3, 4))],
        )
        self.assertEqual(got_by(2, 1, ((4, (2, 2)), (6, (0, 6)))), [((1, 2), (1, 2)), ((1, 2), (3, 2))])

    def test_an_empty_row(self):
        for n, m in sizes():
            self.assertEqual(got(n, m, ()), ((0, 1),) * n)
            self.assertEqual(got_by(n, m, ()), [])

    def test_one_who_gets_nothing(self):
        self.assertEqual(got(2, 1, ((360, (0, 360)),) * 3), ((0, 1), (3, 1)))
        self.assertEqual(got_by(2, 1, ((7, (0, 7)),) * 2), [((0, 1), (1, 1)), ((0, 1), (2, 1))])

    def test_rows_of_all_sizes(self):
        chance = Random(4)
        for n, m in sizes():
            row = some_row(n, m, chance.randint(1, 12), chance)
            with self.subTest(n, m=m):
                self.check(n, m, row)

    def check(self, n, m, row):
        behind = reckoned(n, row)
        self.assertEqual(got_by(n, m, row), behind)
        self.assertEqual(got(n, m, row), behind[-1])
        for beat, sums in enumerate(got_by(n, m, row)):
            self.assertEqual(sum(Fraction(*part) for part in sums), m * (beat + 1))

    def test_rows_of_400_beats(self):
        chance = Random(5)
        self.check(12, 5, some_row(12, 5, 400, chance))
        self.check(1, 1, ((360, (360,)),) * 400)
        self.check(2, 1, ((360, (1, 359)),) * 400)

    def test_all_bottoms_at_once(self):
        self.check(3, 1, tuple((bottom, (1, bottom - 1, 0)) for bottom in range(1, 361)))

    def test_kinds_of_what_is_told(self):
        row = ((4, (4, 3, 1)), (6, (6, 3, 3)), (1, (0, 1, 1)))
        self.assertIs(type(got_by(3, 2, row)), list)
        self.assertEqual(len(got_by(3, 2, row)), 3)
        for sums in [got(3, 2, row), got(3, 2, ())] + got_by(3, 2, row):
            self.assertIs(type(sums), tuple)
            self.assertEqual(len(sums), 3)
            for part in sums:
                self.assertIs(type(part), tuple)
                self.assertEqual([type(number) for number in part], [int, int])
                self.assertGreater(part[1], 0)
                self.assertEqual(gcd(*part), 1)

    def test_lists_are_new_each_time(self):
        row = (HALVES, (3, (1, 2)))
        one = got_by(2, 1, row)
        other = got_by(2, 1, row)
        self.assertIsNot(one, other)
        self.assertEqual(one, other)
        one.append(None)
        one[0] = None
        self.assertEqual(other, reckoned(2, row))
        self.assertEqual(got_by(2, 1, row), reckoned(2, row))
        empty = got_by(2, 1, ())
        empty.append(1)
        self.assertEqual(got_by(2, 1, ()), [])
        self.assertEqual(got_by(5, 2, ()), [])

    def test_equal_calls_give_equal_answers(self):
        chance = Random(6)
        rows = [(n, m, some_row(n, m, 3, chance)) for n, m in sizes()]
        ahead = [(is_row(*each), got(*each), got_by(*each)) for each in rows]
        self.assertEqual(told_by(got, 2, 1, (None,)), (NoRow, 0))
        for each, answer in reversed(list(zip(rows, ahead))):
            self.assertEqual((is_row(*each), got(*each), got_by(*each)), answer)


if __name__ == "__main__":
    unittest.main()
