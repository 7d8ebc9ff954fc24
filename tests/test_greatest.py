"""Points 4.1 and 4.2: the greatest debts together, calm debts, and the step of debts."""

import itertools
import unittest
from fractions import Fraction
from random import Random

from harmonicdues import greatest as module
from harmonicdues.dealing import Dealer, least
from harmonicdues.errors import NoDebts, NoNumber, NoPeople, NoShares
from harmonicdues.greatest import allowed, breach, greatest, is_calm, reasons, step
from tests.things import (
    all_kinds, no_integers, no_people, no_shares, pair_of, pairs_of, snapshot, some_row, some_shares, told_by,
)

NOUGHT = (0, 1)
HALVES = (2, (1, 1))
TWO = ((1, 2), (-1, 2))
NAMES = ("greatest", "allowed", "is_calm", "breach", "step", "reasons")


def sum_of(debts):
    return sum((Fraction(*debt) for debt in debts), Fraction(0))


def reckoned_lot(debts, many):
    """The so many greatest, found by counting for each one who comes ahead."""
    lot = []
    for person, debt in enumerate(debts):
        ahead = [
            other for other, its in enumerate(debts)
            if Fraction(*its) > Fraction(*debt) or its == debt and other < person
        ]
        if len(ahead) < many:
            lot.append(person)
    return tuple(lot)


def reckoned_greatest(debts, many):
    lot = reckoned_lot(debts, many)
    return (pair_of(sum_of([debts[person] for person in lot])), lot)


def reckoned_allowed(n, beats, many):
    return many * sum((Fraction(1, i) for i in range(many + 1, min(n, many + beats) + 1)), Fraction(0))


def reckoned_breach(n, beats, debts):
    for many in range(1, n + 1):
        lot = reckoned_lot(debts, many)
        if sum_of([debts[person] for person in lot]) > reckoned_allowed(n, beats, many):
            return ("many", many, lot)
    for person, debt in enumerate(debts):
        if Fraction(*debt) < Fraction(1, n) - 1:
            return ("low", person, debt)
    return None


def reckoned_step(n, debts, shares):
    bottom, tops = shares
    grown = [Fraction(*debt) + Fraction(top, bottom) for debt, top in zip(debts, tops)]
    person = grown.index(max(grown))
    grown[person] -= 1
    return (person, pairs_of(grown))


def some_debts(n, chance, bottoms=(1, 2, 3, 4, 6, 12)):
    """Debts of n people, some of them alike."""
    debts = [Fraction(chance.randint(-6, 6), chance.choice(bottoms)) for _ in range(n - 1)]
    debts.insert(chance.randrange(n), -sum(debts, Fraction(0)))
    return pairs_of(debts)


def led_debts(n, beats, chance):
    dealer = Dealer(n)
    for shares in some_row(n, 1, beats, chance):
        dealer.beat(shares)
    return dealer.debts()


def at_the_bound(n, beats, many, more=Fraction(0)):
    """Debts whose so many greatest have just what is allowed, and more, and all others alike."""
    each = (reckoned_allowed(n, beats, many) + more) / many
    return pairs_of([each] * many + [-each * many / (n - many)] * (n - many))


def no_debts():
    """Things that are no debts of two people."""
    return all_kinds() + [
        [(1, 2), (-1, 2)], ([1, 2], (-1, 2)), ((1, 2), [-1, 2]), ((1, 2), (1, 2)), ((1, 2), (-1, 3)), ((0, 1), (1, 1)),
        ((2, 4), (-1, 2)), ((1, 2), (-2, 4)), ((0, 2), (0, 1)), ((0, 1), (0, 2)), ((0, 0), (0, 1)), ((0, 0), (0, 0)),
        ((-1, -2), (-1, 2)), ((1, 2), (1, -2)), ((0, -1), (0, 1)), ((0, 1), (0, -1)), ((1, 0), (-1, 0)),
        ((1, 2),), ((0, 1),), ((0, 1), (0, 1), (0, 1)), ((1, 2), (-1, 2), (0, 1)), (), (0, 0), (1, -1), (0, (0, 1)),
        ((False, 1), (0, 1)), ((0, True), (0, 1)), ((0, 1), (0, True)), ((True, 1), (-1, 1)), ((1, 2, 3), (-1, 2)),
        ((1,), (-1, 2)), ((1, 2), ()), ((1, 2), None), (None, (0, 1)), ("01", "01"), ("ab", (0, 1)), ((0, "1"), (0, 1)),
        (("0", 1), (0, 1)), ((0, None), (0, 1)), ((None, 1), (0, 1)), (((0,), 1), (0, 1)), (((0, 1),), (0, 1)),
        {0: (0, 1), 1: (0, 1)}, {(0, 1): 0, (1, 1): 1}, (b"\0\1", (0, 1)), (0, 1), ((0, 1), (0, 1, 1)),
        (range(2), range(2)),
        ((3, 6), (-3, 6)), ((10 ** 59, 10 ** 58), (-10, 1)), ((10 ** 59, 1), (1 - 10 ** 59, 1)),
    ]


class Interface(unittest.TestCase):
    def test_functions_stand_in_their_module(self):
        for name in NAMES:
            self.assertEqual(getattr(module, name).__module__, "harmonicdues.greatest")


class Refused(unittest.TestCase):
    """The errors of all six, one by one and in their order."""

    def test_one_to_twelve_people(self):
        for n in range(1, 13):
            debts, shares = (NOUGHT,) * n, (1, (1,) + (0,) * (n - 1))
            for call, given in (
                (greatest, (n, debts, 1)), (greatest, (n, debts, n)), (allowed, (n, 0, 1)), (allowed, (n, 10 ** 9, n)),
                (is_calm, (n, 0, debts)), (is_calm, (n, 10 ** 9, None)), (breach, (n, 0, debts)),
                (breach, (n, 10 ** 9, debts)), (step, (n, debts, shares)), (reasons, (n, debts, shares)),
            ):
                self.assertIsNone(told_by(call, *given))

    def test_no_people(self):
        for n in no_people():
            for call, given in (
                (greatest, (TWO, 1)), (allowed, (1, 1)), (is_calm, (1, TWO)), (breach, (1, TWO)), (step, (TWO, HALVES)),
                (reasons, (TWO, HALVES)),
            ):
                with self.subTest(kind=type(n).__name__, call=call.__name__):
                    self.assertEqual(told_by(call, n, *given), (NoPeople,))
                    self.assertEqual(told_by(call, n, None, None), (NoPeople,))
                    self.assertEqual(told_by(call, n, -1, -1), (NoPeople,))

    def test_right_debts_of_too_many_people(self):
        self.assertEqual(told_by(greatest, 13, (NOUGHT,) * 13, 1), (NoPeople,))
        self.assertEqual(told_by(step, 13, (NOUGHT,) * 13, (1, (1,) + (0,) * 12)), (NoPeople,))
        self.assertEqual(told_by(is_calm, 13, 1, (NOUGHT,) * 13), (NoPeople,))
        self.assertEqual(told_by(breach, True, 1, (NOUGHT,)), (NoPeople,))

    def test_no_debts(self):
        for debts in no_debts():
            with self.subTest(debts=str(debts)[:60]):
                for many in (1, 2, 0, 3, None):
                    self.assertEqual(told_by(greatest, 2, debts, many), (NoDebts,))
                for beats in (0, 10 ** 9):
                    self.assertEqual(told_by(breach, 2, beats, debts), (NoDebts,))
                    self.assertIs(is_calm(2, beats, debts), False)
                for shares in (HALVES, None, (2, (1, 2))):
                    self.assertEqual(told_by(step, 2, debts, shares), (NoDebts,))
                    self.assertEqual(told_by(reasons, 2, debts, shares), (NoDebts,))

    def test_debts_of_other_numbers_of_people(self):
        for n in range(1, 13):
            for other in range(14):
                told = None if other == n else (NoDebts,)
                self.assertEqual(told_by(greatest, n, (NOUGHT,) * other, 1), told)
                self.assertEqual(told_by(breach, n, 0, (NOUGHT,) * other), told)
                self.assertEqual(told_by(step, n, (NOUGHT,) * other, (1, (1,) + (0,) * (n - 1))), told)
                self.assertIs(is_calm(n, 0, (NOUGHT,) * other), other == n)

    def test_one_of_many_debts_is_wrong(self):
        for n in (1, 5, 12):
            for at in range(n):
                for wrong in ((1, 1), (0, 2), (0, -1), [0, 1], 0, None, (0, 1, 0), (0,), (False, 1), (0, True)):
                    debts = (NOUGHT,) * at + (wrong,) + (NOUGHT,) * (n - at - 1)
                    self.assertEqual(told_by(greatest, n, debts, 1), (NoDebts,))
                    self.assertIs(is_calm(n, 5, debts), False)

    def test_a_sum_that_is_very_little_off(self):
        great = 10 ** 58
        self.assertIsNone(told_by(greatest, 2, ((1, great), (-1, great)), 1))
        self.assertEqual(told_by(greatest, 2, ((1, great), (-1, great + 1)), 1), (NoDebts,))
        self.assertEqual(told_by(greatest, 2, ((great + 1, 1), (-great, 1)), 1), (NoDebts,))
        self.assertEqual(told_by(greatest, 3, ((1, great), (0, 1), (0, 1)), 1), (NoDebts,))

    def test_no_number_of_beats(self):
        for beats in [-1, -2, 10 ** 9 + 1, 10 ** 59, -(10 ** 59)] + no_integers():
            self.assertEqual(told_by(allowed, 2, beats, 1), (NoNumber,))
            self.assertEqual(told_by(allowed, 2, beats, 0), (NoNumber,))
            self.assertEqual(told_by(is_calm, 2, beats, TWO), (NoNumber,))
            self.assertEqual(told_by(is_calm, 2, beats, None), (NoNumber,))
            self.assertEqual(told_by(breach, 2, beats, TWO), (NoNumber,))
            self.assertEqual(told_by(breach, 2, beats, None), (NoNumber,))

    def test_no_number_of_people(self):
        for n in (1, 2, 12):
            debts = (NOUGHT,) * n
            for many in [0, -1, n + 1, 13, 10 ** 59, -(10 ** 59)] + no_integers():
                self.assertEqual(told_by(greatest, n, debts, many), (NoNumber,))
                self.assertEqual(told_by(allowed, n, 3, many), (NoNumber,))

    def test_no_shares(self):
        for n in (2, 3, 12):
            for shares in no_shares(n):
                self.assertEqual(told_by(step, n, (NOUGHT,) * n, shares), (NoShares,))
                self.assertEqual(told_by(reasons, n, (NOUGHT,) * n, shares), (NoShares,))

    def test_nothing_is_changed(self):
        for thing in ([[1, 2], [-1, 2]], ([1, 2], [-1, 2]), [(1, 2), (-1, 2)], {0: [1]}):
            ahead = snapshot(thing)
            told_by(greatest, 2, thing, 1)
            told_by(greatest, 2, TWO, thing)
            told_by(allowed, 2, thing, thing)
            told_by(is_calm, 2, 1, thing)
            told_by(breach, 2, 1, thing)
            for call in (step, reasons):
                told_by(call, 2, thing, HALVES)
                told_by(call, 2, TWO, thing)
            self.assertEqual(thing, ahead)


class Greatest(unittest.TestCase):
    def test_small_ones(self):
        debts = ((1, 2), (-1, 1), (1, 3), (1, 6))
        self.assertEqual(
            [greatest(4, debts, many) for many in range(1, 5)],
            [((1, 2), (0,)), ((5, 6), (0, 2)), ((1, 1), (0, 2, 3)), ((0, 1), (0, 1, 2, 3))],
        )
        self.assertEqual(greatest(1, (NOUGHT,), 1), ((0, 1), (0,)))
        self.assertEqual(greatest(2, ((-5, 7), (5, 7)), 1), ((5, 7), (1,)))
        self.assertEqual(greatest(3, ((-1, 1), (0, 1), (1, 1)), 2), ((1, 1), (1, 2)))

    def test_the_lesser_number_where_debts_are_alike(self):
        for n in range(1, 13):
            for many in range(1, n + 1):
                self.assertEqual(greatest(n, (NOUGHT,) * n, many), (NOUGHT, tuple(range(many))))
        debts = ((-1, 1), (1, 2), (-1, 1), (1, 2), (1, 2), (1, 2))
        self.assertEqual(
            [greatest(6, debts, many)[1] for many in range(1, 7)],
            [(1,), (1, 3), (1, 3, 4), (1, 3, 4, 5), (0, 1, 3, 4, 5), (0, 1, 2, 3, 4, 5)],
        )

    def test_all_orders_of_few_debts(self):
        for debts in itertools.permutations(((3, 4), (1, 4), (1, 4), (-1, 2), (-3, 4))):
            for many in range(1, 6):
                self.assertEqual(greatest(5, debts, many), reckoned_greatest(debts, many))

    def test_debts_of_all_sizes(self):
        chance = Random(1)
        for n in range(1, 13):
            for _ in range(8):
                debts = some_debts(n, chance)
                for many in range(1, n + 1):
                    self.assertEqual(greatest(n, debts, many), reckoned_greatest(debts, many))

    def test_debts_behind_many_beats(self):
        chance = Random(2)
        for n in (2, 3, 12):
            dealer = Dealer(n)
            for _ in range(60):
                dealer.beat(some_shares(n, 1, chance.randint(1, 360), chance))
            for many in range(1, n + 1):
                self.assertEqual(greatest(n, dealer.debts(), many), reckoned_greatest(dealer.debts(), many))

    def test_great_numbers(self):
        great = 10 ** 59
        debts = ((1, great), (1, great - 1), (-2 * great + 1, great * (great - 1)))
        self.assertEqual(greatest(3, debts, 1), ((1, great - 1), (1,)))
        self.assertEqual(greatest(3, debts, 2), ((2 * great - 1, great * (great - 1)), (0, 1)))
        self.assertEqual(greatest(2, ((-great, 1), (great, 1)), 1), ((great, 1), (1,)))

    def test_kinds_of_what_is_told(self):
        told = greatest(3, ((1, 2), (-1, 1), (1, 2)), 2)
        self.assertEqual(told, ((1, 1), (0, 2)))
        self.assertEqual([type(part) for part in told], [tuple, tuple])
        self.assertEqual([type(number) for part in told for number in part], [int] * 4)


class Allowed(unittest.TestCase):
    def test_the_example_of_the_document(self):
        self.assertEqual(allowed(3, 1, 2), (2, 3))

    def test_all_sizes(self):
        for n in range(1, 13):
            for many in range(1, n + 1):
                for beats in list(range(14)) + [400, 10 ** 9 - 1, 10 ** 9]:
                    self.assertEqual(allowed(n, beats, many), pair_of(reckoned_allowed(n, beats, many)))

    def test_some_by_hand(self):
        self.assertEqual(allowed(4, 1, 1), (1, 2))
        self.assertEqual(allowed(4, 2, 1), (5, 6))
        self.assertEqual(allowed(4, 3, 1), (13, 12))
        self.assertEqual(allowed(4, 4, 1), (13, 12))
        self.assertEqual(allowed(4, 1, 2), (2, 3))
        self.assertEqual(allowed(4, 2, 2), (7, 6))
        self.assertEqual(allowed(4, 9, 3), (3, 4))
        self.assertEqual(allowed(12, 10 ** 9, 11), (11, 12))
        self.assertEqual(allowed(12, 10 ** 9, 6), (18107, 4620))

    def test_nothing_for_no_beat_or_all_people(self):
        for n in range(1, 13):
            for many in range(1, n + 1):
                self.assertEqual(allowed(n, 0, many), NOUGHT)
            for beats in (0, 1, 5, 10 ** 9):
                self.assertEqual(allowed(n, beats, n), NOUGHT)


class Calm(unittest.TestCase):
    def judge(self, n, beats, debts):
        """Compare is_calm and breach with what is reckoned, which is returned."""
        told = reckoned_breach(n, beats, debts)
        self.assertEqual(breach(n, beats, debts), told)
        self.assertIs(is_calm(n, beats, debts), told is None)
        return told

    def test_no_debts_yet(self):
        for n in range(1, 13):
            for beats in (0, 1, 7, 10 ** 9):
                self.assertIsNone(self.judge(n, beats, (NOUGHT,) * n))

    def test_nothing_else_is_calm_behind_no_beat(self):
        self.assertEqual(self.judge(2, 0, TWO), ("many", 1, (0,)))
        self.assertEqual(self.judge(3, 0, ((0, 1), (-1, 360), (1, 360))), ("many", 1, (2,)))
        self.assertIsNone(self.judge(2, 1, TWO))

    def test_debts_of_a_led_dealer_are_calm(self):
        chance = Random(3)
        for n in range(1, 13):
            for beats in (1, 2, 3, 5, 11, 12, 40):
                debts = led_debts(n, beats, chance)
                self.assertIsNone(self.judge(n, beats, debts))
                self.assertIsNone(self.judge(n, beats + 1, debts))
                self.assertIsNone(self.judge(n, 10 ** 9, debts))

    def test_some_debts(self):
        chance = Random(4)
        told = []
        for n in range(2, 13):
            for _ in range(30):
                debts = some_debts(n, chance, (4, 6, 12, 12, 24))
                told.append(self.judge(n, chance.choice((0, 1, 2, 3, 10, 10 ** 9)), debts))
        self.assertEqual({each if each is None else each[0] for each in told}, {"many", None})

    def test_just_at_the_bound_and_above(self):
        for n in range(2, 13):
            for many in range(1, n):
                for beats in (1, 2, n - many, n, 10 ** 9):
                    self.assertIsNone(self.judge(n, beats, at_the_bound(n, beats, many)))
                    debts = at_the_bound(n, beats, many, Fraction(1, 10 ** 40))
                    self.assertEqual(self.judge(n, beats, debts), ("many", many, tuple(range(many))))
                    told = self.judge(n, beats, debts[::-1])
                    self.assertEqual(told, ("many", many, tuple(range(n - many, n))))

    def test_just_at_all_bounds_at_once(self):
        for n in range(2, 13):
            for beats in (1, 2, 5, n, 10 ** 9):
                bounds = [Fraction(0)] + [reckoned_allowed(n, beats, many) for many in range(1, n + 1)]
                debts = [behind - ahead for ahead, behind in zip(bounds, bounds[1:])]
                self.assertIsNone(self.judge(n, beats, pairs_of(debts)))
                for many in range(1, n):
                    more = list(debts)
                    more[many - 1] += Fraction(1, 10 ** 40)
                    more[many] -= Fraction(1, 10 ** 40)
                    self.assertEqual(self.judge(n, beats, pairs_of(more))[0], "many")

    def test_the_least_many_comes_first(self):
        self.assertEqual(self.judge(4, 9, ((3, 1), (3, 1), (-3, 1), (-3, 1))), ("many", 1, (0,)))
        self.assertEqual(self.judge(4, 9, ((-3, 1), (3, 1), (-3, 1), (3, 1))), ("many", 1, (1,)))
        self.assertEqual(self.judge(4, 9, ((-1, 1), (1, 1), (1, 1), (-1, 1))), ("many", 2, (1, 2)))
        self.assertEqual(self.judge(4, 9, ((-1, 1), (1, 3), (1, 3), (1, 3))), ("many", 3, (1, 2, 3)))
        self.assertEqual(self.judge(3, 1, ((1, 2), (1, 3), (-5, 6))), ("many", 2, (0, 1)))

    def test_many_comes_ahead_of_low(self):
        debts = ((-5, 1), (5, 2), (5, 2))
        self.assertEqual(self.judge(3, 9, debts), ("many", 1, (1,)))
        self.assertEqual(self.judge(3, 0, ((1, 1), (0, 1), (-1, 1))), ("many", 1, (0,)))

    def test_too_low_comes_with_too_many_of_all_others(self):
        # All debts together are 0, so all but one have too much as soon as this one is below least(n).
        for n in range(2, 13):
            for beats in (1, 2, 10 ** 9):
                low = Fraction(1, n) - 1
                debts = pairs_of([low] + [-low / (n - 1)] * (n - 1))
                self.assertEqual(debts[0], least(n))
                self.assertIsNone(self.judge(n, beats, debts))
                less = low - Fraction(1, 10 ** 40)
                debts = pairs_of([less] + [-less / (n - 1)] * (n - 1))
                self.assertEqual(self.judge(n, beats, debts), ("many", n - 1, tuple(range(1, n))))

    def test_one_person(self):
        self.assertIsNone(self.judge(1, 0, (NOUGHT,)))
        self.assertIs(is_calm(1, 5, ((1, 1),)), False)

    def test_flags_for_things_of_all_kinds(self):
        for thing in no_debts():
            self.assertIs(is_calm(2, 3, thing), False)
        self.assertIs(is_calm(2, 3, TWO), True)
        self.assertIs(is_calm(2, 3, ((1, 1), (-1, 1))), False)


class Steps(unittest.TestCase):
    def test_small_ones(self):
        self.assertEqual(step(2, (NOUGHT, NOUGHT), HALVES), (0, ((-1, 2), (1, 2))))
        self.assertEqual(step(2, ((-1, 2), (1, 2)), HALVES), (1, (NOUGHT, NOUGHT)))
        self.assertEqual(step(3, ((-2, 3), (1, 3), (1, 3)), (2, (0, 1, 1))), (1, ((-2, 3), (-1, 6), (5, 6))))
        self.assertEqual(step(1, (NOUGHT,), (7, (7,))), (0, (NOUGHT,)))
        self.assertEqual(reasons(3, ((-2, 3), (1, 3), (1, 3)), (2, (0, 1, 1))), [
            ("out", (2,)), ("in", (1, 2)), ("in", (0, 1, 2)),
        ])
        self.assertEqual(reasons(2, (NOUGHT, NOUGHT), HALVES), [("out", (1,)), ("in", (0, 1))])
        self.assertEqual(reasons(1, (NOUGHT,), (7, (7,))), [("in", (0,))])
        self.assertEqual(reasons(2, ((3, 1), (-3, 1)), HALVES), [("in", (0,)), ("in", (0, 1))])

    def test_alike(self):
        self.assertEqual(step(3, (NOUGHT,) * 3, (3, (1, 1, 1))), (0, ((-2, 3), (1, 3), (1, 3))))
        self.assertEqual(step(3, ((-1, 2), (1, 4), (1, 4)), (2, (0, 1, 1))), (1, ((-1, 2), (-1, 4), (3, 4))))
        self.assertEqual(step(3, ((1, 3), (-1, 3), NOUGHT), (3, (0, 2, 1))), (0, ((-2, 3), (1, 3), (1, 3))))
        debts = ((1, 1), (1, 1), (-2, 1))
        self.assertEqual(step(3, debts, (1, (1, 0, 0))), (0, ((1, 1), (1, 1), (-2, 1))))
        self.assertEqual(reasons(3, debts, (1, (1, 0, 0))), [("in", (0,)), ("in", (0, 1)), ("in", (0, 1, 2))])
        self.assertEqual(step(3, debts, (1, (0, 1, 0))), (1, debts))
        self.assertEqual(reasons(3, debts, (1, (0, 1, 0))), [("out", (0,)), ("in", (0, 1)), ("in", (0, 1, 2))])
        self.assertEqual(reasons(4, (NOUGHT,) * 4, (4, (1,) * 4)), [
            ("out", (1,)), ("out", (1, 2)), ("out", (1, 2, 3)), ("in", (0, 1, 2, 3)),
        ])

    def cases(self, seed):
        """Debts of all sizes, any and those of a led dealer, with shares."""
        chance = Random(seed)
        for n in range(1, 13):
            for _ in range(8):
                yield n, some_debts(n, chance), some_shares(n, 1, chance.randint(1, 12), chance)
                debts = led_debts(n, chance.randint(0, 20), chance)
                yield n, debts, some_shares(n, 1, chance.randint(1, 12), chance)
                yield n, debts, (n, (1,) * n)

    def test_steps_of_all_sizes(self):
        for n, debts, shares in self.cases(5):
            self.assertEqual(step(n, debts, shares), reckoned_step(n, debts, shares))

    def test_a_step_is_what_a_dealer_does(self):
        chance = Random(6)
        for n in range(1, 13):
            dealer = Dealer(n)
            for shares in some_row(n, 1, 20, chance):
                told = step(n, dealer.debts(), shares)
                self.assertEqual((dealer.beat(shares), dealer.debts()), told)

    def test_reasons_of_all_sizes(self):
        found = set()
        for n, debts, shares in self.cases(7):
            person, behind = reckoned_step(n, debts, shares)
            told = reasons(n, debts, shares)
            lots = [reckoned_lot(behind, many) for many in range(1, n + 1)]
            self.assertEqual(told, [("in" if person in lot else "out", lot) for lot in lots])
            found.update(reason for reason, _ in told)
        self.assertEqual(found, {"in", "out"})

    def test_the_step_of_debts(self):
        for n, debts, shares in self.cases(8):
            person, behind = step(n, debts, shares)
            for many, (reason, lot) in enumerate(reasons(n, debts, shares), 1):
                total = sum_of([behind[each] for each in lot])
                if reason == "in":
                    self.assertLessEqual(total, sum_of([debts[each] for each in lot]))
                else:
                    ahead = 1 + sum_of([debts[each] for each in lot + (person,)])
                    self.assertLessEqual(total, Fraction(many, many + 1) * ahead)

    def test_calm_debts_lead_to_calm_ones(self):
        chance = Random(9)
        for n in range(1, 13):
            debts = (NOUGHT,) * n
            for beats in range(30):
                self.assertIs(is_calm(n, beats, debts), True)
                many = chance.randint(1, n)
                lot = greatest(n, debts, many)[1]
                shares = (many, tuple(1 if person in lot else 0 for person in range(n)))
                debts = step(n, debts, shares)[1]
            self.assertIs(is_calm(n, 30, debts), True)

    def test_some_debts_are_just_what_is_allowed(self):
        for n in range(2, 13):
            debts, group = (NOUGHT,) * n, list(range(n))
            for beats in range(1, n):
                tops = tuple(1 if person in group else 0 for person in range(n))
                person, debts = step(n, debts, (len(group), tops))
                group.remove(person)
                many = len(group)
                self.assertEqual(greatest(n, debts, many), (allowed(n, beats, many), tuple(group)))

    def test_kinds_of_what_is_told(self):
        told = step(3, (NOUGHT,) * 3, (3, (1, 1, 1)))
        self.assertEqual([type(part) for part in told], [int, tuple])
        self.assertEqual([type(debt) for debt in told[1]], [tuple] * 3)
        told = reasons(3, (NOUGHT,) * 3, (3, (1, 1, 1)))
        self.assertIs(type(told), list)
        self.assertEqual([(type(each), type(each[1])) for each in told], [(tuple, tuple)] * 3)

    def test_lists_are_new_each_time(self):
        given = (3, (NOUGHT,) * 3, (3, (1, 1, 1)))
        one, other = reasons(*given), reasons(*given)
        self.assertIsNot(one, other)
        ahead = list(other)
        one[0] = None
        one.append(1)
        self.assertEqual((other, reasons(*given)), (ahead, ahead))

    def test_equal_calls_give_equal_answers(self):
        cases = list(self.cases(10))
        ahead = [(step(*case), reasons(*case)) for case in cases]
        self.assertEqual(told_by(step, 2, TWO, None), (NoShares,))
        for case, answer in reversed(list(zip(cases, ahead))):
            self.assertEqual((step(*case), reasons(*case)), answer)

    def test_least_of_dealing_is_the_bound_below(self):
        for n in range(2, 13):
            behind = step(n, (NOUGHT,) * n, (n, (1,) * n))[1]
            self.assertEqual(behind[0], least(n))
            self.assertIsNone(breach(n, 1, behind))


if __name__ == "__main__":
    unittest.main()
