"""Points 3.1 and 3.2: dealing to the greatest debt, and the bounds of the debts."""

import unittest
from fractions import Fraction
from math import gcd
from random import Random

from harmonicdues import dealing as module
from harmonicdues.dealing import Dealer, dealt, debts_behind, least, most
from harmonicdues.errors import NoDeals, NoNumber, NoPeople, NoPerson, NoRow, NoShares
from tests.things import (
    no_integers, no_people, no_persons, no_rows, no_shares, other_things, pair_of, pairs_of, snapshot, some_row,
    some_shares, told_by, tuples,
)

HALVES = (2, (1, 1))
ROW = (HALVES, (3, (1, 2)), (5, (5, 0)), (7, (3, 4)))


class Reckoned:
    """A dealer reckoned with Python's own fractions."""

    def __init__(self, n):
        self.debts = [Fraction(0)] * n
        self.things = [0] * n

    def come(self, shares):
        bottom, tops = shares
        self.debts = [debt + Fraction(top, bottom) for debt, top in zip(self.debts, tops)]

    def give(self, person):
        self.debts[person] -= 1
        self.things[person] += 1

    def beat(self, shares):
        self.come(shares)
        person = self.debts.index(max(self.debts))
        self.give(person)
        return person

    def deal(self, shares, person):
        self.come(shares)
        self.give(person)

    def state(self):
        return (pairs_of(self.debts), tuple(self.things), sum(self.things))


def state(dealer):
    return (dealer.debts(), dealer.things(), dealer.beats())


def bound(n, beats):
    return sum((Fraction(1, i) for i in range(2, min(n, beats + 1) + 1)), Fraction(0))


def worth(fractions):
    return [Fraction(*fraction) for fraction in fractions]


def hard_shares(n, group):
    """Shares by which each one of a group gets as much."""
    return (len(group), tuple(1 if person in group else 0 for person in range(n)))


def lead_hard(n, dealer, beats):
    """Lead a dealer by shares of a group that whoever gets a thing leaves; the one who is left."""
    group = list(range(min(n, beats + 1)))
    while len(group) > 1:
        person = dealer.beat(hard_shares(n, group))
        group.remove(person if person in group else group[-1])
    return group[0]


class DealerTest(unittest.TestCase):
    def same(self, dealer, reckoned):
        self.assertEqual(state(dealer), reckoned.state())

    def follow(self, n, row):
        """Lead a Dealer by a row and compare each beat."""
        dealer, reckoned = Dealer(n), Reckoned(n)
        self.same(dealer, reckoned)
        for shares in row:
            person = dealer.beat(shares)
            self.assertIs(type(person), int)
            self.assertEqual(person, reckoned.beat(shares))
            self.same(dealer, reckoned)
        return dealer


class Interface(unittest.TestCase):
    def test_all_stand_in_their_module(self):
        for name in ("Dealer", "dealt", "debts_behind", "most", "least"):
            self.assertEqual(getattr(module, name).__module__, "harmonicdues.dealing")

    def test_methods_stand_in_the_class(self):
        for name in ("__init__", "beat", "deal", "debts", "things", "beats", "copy"):
            self.assertIn(name, vars(Dealer))


class People(unittest.TestCase):
    def test_one_to_twelve(self):
        for n in range(1, 13):
            self.assertEqual(state(Dealer(n)), (((0, 1),) * n, (0,) * n, 0))
            for call in (Dealer, least):
                self.assertIsNone(told_by(call, n))
            self.assertIsNone(told_by(dealt, n, ()))
            self.assertIsNone(told_by(debts_behind, n, (), ()))
            self.assertIsNone(told_by(most, n, 0))

    def test_no_people(self):
        for n in no_people():
            with self.subTest(kind=type(n).__name__):
                self.assertEqual(told_by(Dealer, n), (NoPeople,))
                self.assertEqual(told_by(least, n), (NoPeople,))
                self.assertEqual(told_by(most, n, 1), (NoPeople,))
                self.assertEqual(told_by(dealt, n, ()), (NoPeople,))
                self.assertEqual(told_by(debts_behind, n, (), []), (NoPeople,))

    def test_no_people_comes_ahead_of_all(self):
        for n in (0, 13, True, None, "2"):
            self.assertEqual(told_by(most, n, -1), (NoPeople,))
            self.assertEqual(told_by(most, n, None), (NoPeople,))
            self.assertEqual(told_by(dealt, n, None), (NoPeople,))
            self.assertEqual(told_by(dealt, n, (None,)), (NoPeople,))
            self.assertEqual(told_by(debts_behind, n, None, None), (NoPeople,))
            self.assertEqual(told_by(debts_behind, n, (HALVES,), [0]), (NoPeople,))


class Beats(DealerTest):
    def test_the_example_of_the_document(self):
        d = Dealer(3)
        self.assertEqual(
            (d.beat((3, (1, 1, 1))), d.debts(), d.beat((2, (0, 1, 1))), d.debts()),
            (0, ((-2, 3), (1, 3), (1, 3)), 1, ((-2, 3), (-1, 6), (5, 6))),
        )
        self.assertEqual(state(d), (((-2, 3), (-1, 6), (5, 6)), (1, 1, 0), 2))

    def test_rows_of_all_sizes(self):
        chance = Random(1)
        for n in range(1, 13):
            for _ in range(4):
                self.follow(n, some_row(n, 1, 30, chance))

    def test_the_least_of_those_with_the_greatest_debt(self):
        for n in range(1, 13):
            dealer = Dealer(n)
            told = [dealer.beat((n, (1,) * n)) for _ in range(3 * n)]
            self.assertEqual(told, list(range(n)) * 3)
            self.assertEqual(dealer.debts(), ((0, 1),) * n)
        dealer = Dealer(4)
        self.assertEqual(dealer.beat((3, (0, 1, 1, 1))), 1)
        self.assertEqual(dealer.beat((2, (0, 0, 1, 1))), 2)
        self.assertEqual(dealer.beat((2, (1, 0, 0, 1))), 3)
        self.assertEqual(dealer.beat((6, (2, 4, 0, 0))), 0)

    def test_debts_of_fractions_that_are_alike(self):
        dealer = Dealer(3)
        dealer.deal((6, (2, 1, 3)), 1)
        self.assertEqual(dealer.debts(), ((1, 3), (-5, 6), (1, 2)))
        self.assertEqual(dealer.beat((6, (3, 1, 2))), 0)
        self.assertEqual(dealer.debts(), ((-1, 6), (-2, 3), (5, 6)))

    def test_the_debt_counts_and_not_the_share(self):
        dealer = Dealer(2)
        self.assertEqual([dealer.beat((5, (3, 2))) for _ in range(5)], [0, 1, 0, 1, 0])
        self.assertEqual(dealer.debts(), ((0, 1), (0, 1)))
        self.assertEqual([dealer.beat((100, (51, 49))) for _ in range(4)], [0, 1, 0, 1])
        self.assertEqual(dealer.debts(), ((1, 25), (-1, 25)))

    def test_a_difference_that_is_very_small(self):
        dealer = Dealer(2)
        dealer.deal((359, (180, 179)), 0)
        dealer.deal((360, (180, 180)), 1)
        self.assertEqual(dealer.debts(), ((1, 718), (-1, 718)))
        self.assertEqual(dealer.beat(HALVES), 0)
        dealer = Dealer(2)
        dealer.deal((359, (180, 179)), 0)
        dealer.deal((359, (179, 180)), 1)
        dealer.deal((353, (176, 177)), 0)
        dealer.deal((2, (1, 1)), 1)
        self.assertEqual(dealer.beat((1, (0, 1))), 1)
        self.assertEqual(dealer.beat((1, (1, 0))), 0)
        self.assertEqual(dealer.beat(HALVES), 1)

    def test_all_debts_alone_below_nought_but_one(self):
        dealer = Dealer(3)
        for person in (0, 1, 0, 1):
            dealer.deal((4, (1, 1, 2)), person)
        self.assertEqual(dealer.debts(), ((-1, 1), (-1, 1), (2, 1)))
        self.assertEqual(dealer.beat((1, (1, 0, 0))), 2)
        self.assertEqual(dealer.debts(), ((0, 1), (-1, 1), (1, 1)))

    def test_one_person(self):
        dealer = self.follow(1, [(bottom, (bottom,)) for bottom in range(1, 361)])
        self.assertEqual(state(dealer), (((0, 1),), (360,), 360))

    def test_four_hundred_beats(self):
        chance = Random(2)
        self.follow(12, [some_shares(12, 1, chance.randint(1, 360), chance) for _ in range(400)])
        self.follow(2, [(360, (1, 359))] * 400)
        self.follow(3, [(bottom, (bottom - 1, 0, 1)) for bottom in range(1, 361)])

    def test_more_than_four_hundred_beats(self):
        dealer = self.follow(2, [(3, (1, 2))] * 450)
        self.assertEqual(dealer.beats(), 450)
        self.assertEqual(dealer.things(), (150, 300))

    def test_no_shares(self):
        for n in (2, 3, 12):
            dealer = Dealer(n)
            dealer.deal((1, (1,) + (0,) * (n - 1)), 1)
            ahead = state(dealer)
            for thing in no_shares(n):
                with self.subTest(n, thing=str(thing)[:60]):
                    self.assertEqual(told_by(dealer.beat, thing), (NoShares,))
                    self.assertEqual(state(dealer), ahead)

    def test_no_shares_for_one_person(self):
        for thing in ((1, (1, 0)), (1, ()), (1, (0,)), (1, (True,)), (True, (1,)), (2, (1,)), (361, (361,)), None):
            self.assertEqual(told_by(Dealer(1).beat, thing), (NoShares,))

    def test_what_raises_leaves_no_trace(self):
        chance = Random(3)
        dealer, other = Dealer(4), Dealer(4)
        for shares in some_row(4, 1, 20, chance):
            for thing in (None, (2, (1, 1)), [1, (1, 0, 0, 0)]):
                self.assertEqual(told_by(other.beat, thing), (NoShares,))
                self.assertEqual(told_by(other.deal, thing, 0), (NoShares,))
            self.assertEqual(told_by(other.deal, shares, 4), (NoPerson,))
            self.assertEqual(dealer.beat(shares), other.beat(shares))
            self.assertEqual(state(dealer), state(other))


class Deals(DealerTest):
    def test_to_any_person(self):
        chance = Random(4)
        for n in range(1, 13):
            dealer, reckoned = Dealer(n), Reckoned(n)
            for shares in some_row(n, 1, 25, chance):
                person = chance.randrange(n)
                self.assertIsNone(dealer.deal(shares, person))
                reckoned.deal(shares, person)
                self.same(dealer, reckoned)

    def test_beats_and_deals_by_turns(self):
        chance = Random(5)
        for n in range(1, 13):
            dealer, reckoned = Dealer(n), Reckoned(n)
            for shares in some_row(n, 1, 40, chance):
                if chance.random() < 0.5:
                    person = chance.randrange(n)
                    dealer.deal(shares, person)
                    reckoned.deal(shares, person)
                else:
                    self.assertEqual(dealer.beat(shares), reckoned.beat(shares))
                self.same(dealer, reckoned)

    def test_all_to_one(self):
        dealer = Dealer(3)
        for _ in range(400):
            self.assertIsNone(dealer.deal((4, (0, 1, 3)), 0))
        self.assertEqual(state(dealer), (((-400, 1), (100, 1), (300, 1)), (400, 0, 0), 400))
        self.assertEqual(dealer.beat((1, (1, 0, 0))), 2)

    def test_the_same_as_beat(self):
        chance = Random(6)
        led, dealt_to = Dealer(5), Dealer(5)
        for shares in some_row(5, 1, 30, chance):
            self.assertIsNone(dealt_to.deal(shares, led.beat(shares)))
            self.assertEqual(state(led), state(dealt_to))

    def test_no_shares_and_no_person(self):
        for n in (2, 3, 12):
            dealer = Dealer(n)
            shares = (1, (1,) + (0,) * (n - 1))
            dealer.deal(shares, 1)
            ahead = state(dealer)
            for thing in no_shares(n):
                self.assertEqual(told_by(dealer.deal, thing, 0), (NoShares,))
                self.assertEqual(told_by(dealer.deal, thing, n), (NoShares,))
                self.assertEqual(told_by(dealer.deal, thing, None), (NoShares,))
            for person in no_persons(n):
                self.assertEqual(told_by(dealer.deal, shares, person), (NoPerson,))
            self.assertEqual(state(dealer), ahead)

    def test_all_persons(self):
        for n in range(1, 13):
            for person in range(n):
                dealer = Dealer(n)
                self.assertIsNone(dealer.deal((1, (1,) + (0,) * (n - 1)), person))
                self.assertEqual(dealer.things(), (0,) * person + (1,) + (0,) * (n - person - 1))
            self.assertEqual(told_by(Dealer(n).deal, (1, (1,) + (0,) * (n - 1)), n), (NoPerson,))


class Objects(DealerTest):
    def test_kinds_of_what_is_told(self):
        dealer = self.follow(3, [(6, (1, 2, 3)), (4, (2, 1, 1)), (1, (1, 0, 0))])
        self.assertIs(type(dealer), Dealer)
        self.assertIs(type(dealer.beats()), int)
        self.assertIs(type(dealer.things()), tuple)
        self.assertEqual([type(count) for count in dealer.things()], [int] * 3)
        self.assertIs(type(dealer.debts()), tuple)
        for debt in dealer.debts():
            self.assertIs(type(debt), tuple)
            self.assertEqual([type(number) for number in debt], [int, int])
            self.assertGreater(debt[1], 0)
            self.assertEqual(gcd(*debt), 1)

    def test_to_read_changes_nothing(self):
        dealer = self.follow(3, [(6, (1, 2, 3)), (4, (2, 1, 1))])
        ahead = state(dealer)
        for _ in range(3):
            dealer.copy()
            self.assertEqual(state(dealer), ahead)

    def test_what_was_told_stays_as_it_was(self):
        dealer = Dealer(2)
        dealer.beat(HALVES)
        debts, things = dealer.debts(), dealer.things()
        dealer.beat((3, (1, 2)))
        dealer.deal((3, (1, 2)), 0)
        self.assertEqual((debts, things), (((-1, 2), (1, 2)), (1, 0)))

    def test_dealers_stand_apart(self):
        one, other = Dealer(2), Dealer(2)
        one.beat(HALVES)
        one.deal(HALVES, 0)
        self.assertEqual(state(other), (((0, 1), (0, 1)), (0, 0), 0))

    def test_copies_go_on_apart(self):
        chance = Random(7)
        for n in (1, 2, 5, 12):
            dealer, reckoned = Dealer(n), Reckoned(n)
            for shares in some_row(n, 1, 10, chance):
                dealer.beat(shares)
                reckoned.beat(shares)
            copy = dealer.copy()
            self.assertIs(type(copy), Dealer)
            self.assertIsNot(copy, dealer)
            self.same(copy, reckoned)
            ahead = state(dealer)
            for shares in some_row(n, 1, 10, chance):
                self.assertEqual(copy.beat(shares), reckoned.beat(shares))
            self.same(copy, reckoned)
            self.assertEqual(state(dealer), ahead)
            behind = state(copy)
            dealer.deal((1, (1,) + (0,) * (n - 1)), n - 1)
            dealer.beat((1, (1,) + (0,) * (n - 1)))
            self.assertEqual(state(copy), behind)
            again = copy.copy().copy()
            self.assertEqual(state(again), behind)

    def test_a_copy_of_a_new_one(self):
        copy = Dealer(3).copy()
        self.assertEqual(state(copy), (((0, 1),) * 3, (0, 0, 0), 0))
        self.assertEqual(told_by(copy.beat, HALVES), (NoShares,))
        self.assertEqual(told_by(copy.deal, (1, (1, 0, 0)), 3), (NoPerson,))

    def test_equal_to_itself_alone(self):
        dealer = Dealer(2)
        self.assertTrue(dealer == dealer)
        self.assertFalse(dealer != dealer)
        for thing in [Dealer(2), dealer.copy()] + other_things() + tuples() + [0, 2, ()]:
            self.assertFalse(dealer == thing)
            self.assertTrue(dealer != thing)


class Rows(unittest.TestCase):
    def test_rows_of_few_and_many_beats(self):
        chance = Random(8)
        for n in (1, 2, 3, 7, 12):
            for beats in (0, 1, 2, 60, 400 if n < 4 else 100):
                row = some_row(n, 1, beats, chance)
                reckoned = Reckoned(n)
                deals = [reckoned.beat(shares) for shares in row]
                self.assertEqual(dealt(n, row), deals)
                self.assertEqual([type(person) for person in dealt(n, row)], [int] * beats)

    def test_small_rows(self):
        self.assertEqual(dealt(3, ()), [])
        self.assertEqual(dealt(3, ((3, (1, 1, 1)), (2, (0, 1, 1)))), [0, 1])
        self.assertEqual(dealt(2, (HALVES,) * 5), [0, 1, 0, 1, 0])
        self.assertEqual(dealt(2, ((3, (1, 2)),) * 4), [1, 0, 1, 1])
        self.assertEqual(dealt(1, ((5, (5,)),) * 3), [0, 0, 0])

    def test_no_row(self):
        for row, at in no_rows():
            with self.subTest(row=str(row)[:60]):
                for deals in ([], (), None, [0] * 400):
                    self.assertEqual(told_by(debts_behind, 2, row, deals), (NoRow, at))
                self.assertEqual(told_by(dealt, 2, row), (NoRow, at))

    def test_lists_are_new_each_time(self):
        one, other = dealt(2, ROW), dealt(2, ROW)
        self.assertIs(type(one), list)
        self.assertIsNot(one, other)
        ahead = list(other)
        one[0] = None
        one.append(1)
        self.assertEqual((other, dealt(2, ROW)), (ahead, ahead))
        dealt(2, ()).append(0)
        self.assertEqual(dealt(2, ()), [])

    def test_rows_are_not_changed(self):
        for row in ([HALVES], ([2, [1, 1]],), [[2, [1, 1]]], (HALVES, [2, (1, 1)])):
            ahead = snapshot(row)
            told_by(dealt, 2, row)
            told_by(debts_behind, 2, row, [0] * len(row))
            self.assertEqual(row, ahead)


class DebtsBehind(unittest.TestCase):
    def reckoned(self, n, row, deals):
        reckoned, behind = Reckoned(n), []
        for shares, person in zip(row, deals):
            reckoned.deal(shares, person)
            behind.append(pairs_of(reckoned.debts))
        return behind

    def test_small_rows(self):
        self.assertEqual(debts_behind(2, (HALVES, HALVES), [0, 0]), [((-1, 2), (1, 2)), ((-1, 1), (1, 1))])
        self.assertEqual(debts_behind(2, (HALVES, HALVES), (1, 0)), [((1, 2), (-1, 2)), ((0, 1), (0, 1))])
        row = ((3, (1, 1, 1)), (2, (0, 1, 1)))
        self.assertEqual(debts_behind(3, row, [0, 0])[-1], ((-5, 3), (5, 6), (5, 6)))
        self.assertEqual(debts_behind(3, (), []), [])
        self.assertEqual(debts_behind(3, (), ()), [])

    def test_rows_of_all_sizes(self):
        chance = Random(9)
        for n in range(1, 13):
            for beats in (1, 5, 30):
                row = some_row(n, 1, beats, chance)
                deals = [chance.randrange(n) for _ in range(beats)]
                told = self.reckoned(n, row, deals)
                self.assertEqual(debts_behind(n, row, deals), told)
                self.assertEqual(debts_behind(n, row, tuple(deals)), told)

    def test_four_hundred_beats(self):
        chance = Random(10)
        row = some_row(3, 1, 400, chance)
        deals = [chance.randrange(3) for _ in row]
        self.assertEqual(debts_behind(3, row, deals), self.reckoned(3, row, deals))

    def test_what_dealt_tells(self):
        chance = Random(11)
        for n in range(1, 13):
            row = some_row(n, 1, 20, chance)
            dealer, behind = Dealer(n), []
            for shares in row:
                dealer.beat(shares)
                behind.append(dealer.debts())
            self.assertEqual(debts_behind(n, row, dealt(n, row)), behind)

    def test_no_deals(self):
        for thing in [0, 1, -1] + no_integers():
            with self.subTest(kind=type(thing).__name__):
                self.assertEqual(told_by(debts_behind, 2, ROW, thing), (NoDeals,))
        for deals in ([0], [0, 1, 0], [0] * 5, [], [0, 1, 0, 2], [0, -1, 0, 1], [2, 0, 0, 0], {0: 0, 1: 1, 2: 0, 3: 1}):
            self.assertEqual(told_by(debts_behind, 2, ROW, deals), (NoDeals,))
            if type(deals) is list:
                self.assertEqual(told_by(debts_behind, 2, ROW, tuple(deals)), (NoDeals,))
        self.assertEqual(told_by(debts_behind, 2, (), [0]), (NoDeals,))
        self.assertEqual(told_by(debts_behind, 2, (), {}), (NoDeals,))
        self.assertEqual(told_by(debts_behind, 2, (), ""), (NoDeals,))
        self.assertEqual(told_by(debts_behind, 2, (), None), (NoDeals,))
        self.assertEqual(told_by(debts_behind, 2, (HALVES,) * 2, range(2)), (NoDeals,))
        self.assertEqual(told_by(debts_behind, 2, (HALVES,) * 2, b"\0\1"), (NoDeals,))

    def test_deals_of_other_kinds(self):
        for at in range(4):
            for person in no_persons(2):
                deals = [0, 1, 0, 1]
                deals[at] = person
                self.assertEqual(told_by(debts_behind, 2, ROW, deals), (NoDeals,))
                self.assertEqual(told_by(debts_behind, 2, ROW, tuple(deals)), (NoDeals,))

    def test_new_lists_and_nothing_is_changed(self):
        deals = [0, 1, 1, 0]
        one, other = debts_behind(2, ROW, deals), debts_behind(2, ROW, deals)
        self.assertEqual(deals, [0, 1, 1, 0])
        self.assertIs(type(one), list)
        self.assertEqual([type(debts) for debts in one], [tuple] * 4)
        self.assertIsNot(one, other)
        ahead = list(other)
        one[0] = None
        one.append(1)
        self.assertEqual((other, debts_behind(2, ROW, deals)), (ahead, ahead))
        debts_behind(2, (), []).append(0)
        self.assertEqual(debts_behind(2, (), []), [])
        wrong = [0, [1], {}, (0,)]
        ahead = snapshot(wrong)
        self.assertEqual(told_by(debts_behind, 2, ROW, wrong), (NoDeals,))
        self.assertEqual(wrong, ahead)


class Bounds(unittest.TestCase):
    def test_the_example_of_the_document(self):
        self.assertEqual((most(3, 1), most(3, 2), most(3, 9), least(3)), ((1, 2), (5, 6), (5, 6), (-2, 3)))

    def test_most(self):
        for n in range(1, 13):
            for beats in list(range(15)) + [400, 10 ** 9 - 1, 10 ** 9]:
                self.assertEqual(most(n, beats), pair_of(bound(n, beats)))

    def test_most_of_twelve(self):
        told = [most(12, beats) for beats in range(13)]
        self.assertEqual(told, [
            (0, 1), (1, 2), (5, 6), (13, 12), (77, 60), (29, 20), (223, 140), (481, 280), (4609, 2520), (4861, 2520),
            (55991, 27720), (58301, 27720), (58301, 27720),
        ])

    def test_most_of_no_beats_and_of_one_person(self):
        for n in range(1, 13):
            self.assertEqual(most(n, 0), (0, 1))
            self.assertEqual(most(1, n), (0, 1))
        self.assertEqual(most(1, 10 ** 9), (0, 1))

    def test_no_number(self):
        for n in (1, 2, 12):
            for beats in [-1, -2, 10 ** 9 + 1, 10 ** 10, 10 ** 59, -(10 ** 59)] + no_integers():
                self.assertEqual(told_by(most, n, beats), (NoNumber,))

    def test_least(self):
        told = [least(n) for n in range(1, 13)]
        self.assertEqual(told, [
            (0, 1), (-1, 2), (-2, 3), (-3, 4), (-4, 5), (-5, 6), (-6, 7), (-7, 8), (-8, 9), (-9, 10), (-10, 11),
            (-11, 12),
        ])

    def within(self, n, dealer):
        debts = worth(dealer.debts())
        self.assertLessEqual(max(debts), Fraction(*most(n, dealer.beats())))
        self.assertGreaterEqual(min(debts), Fraction(*least(n)))

    def test_debts_of_a_led_dealer_stay_within(self):
        chance = Random(12)
        for n in range(1, 13):
            for _ in range(6):
                dealer = Dealer(n)
                for shares in some_row(n, 1, 40, chance):
                    dealer.beat(shares)
                    self.within(n, dealer)

    def test_debts_of_a_dealer_led_by_hard_shares_stay_within(self):
        chance = Random(13)
        for n in range(1, 13):
            dealer = Dealer(n)
            for _ in range(60):
                debts = worth(dealer.debts())
                many = chance.randint(1, n)
                group = sorted(range(n), key=lambda person: (-debts[person], person))[:many]
                dealer.beat(hard_shares(n, group))
                self.within(n, dealer)

    def test_somewhere_a_debt_is_just_most(self):
        for n in range(1, 13):
            for beats in (1, 2, 5, 11, 400):
                dealer = Dealer(n)
                person = lead_hard(n, dealer, beats)
                self.assertLessEqual(dealer.beats(), beats)
                self.assertEqual(dealer.debts()[person], most(n, beats))
                self.assertEqual(dealer.debts()[person], most(n, dealer.beats()))

    def test_somewhere_a_debt_is_just_least(self):
        for n in range(1, 13):
            dealer = Dealer(n)
            dealer.beat((n, (1,) * n))
            self.assertEqual(dealer.debts()[0], least(n))

    def test_what_way_a_dealer_goes_that_is_not_led_matters(self):
        dealer = Dealer(2)
        dealer.deal(HALVES, 0)
        dealer.deal(HALVES, 0)
        self.assertGreater(Fraction(*dealer.debts()[1]), Fraction(*most(2, 2)))
        self.assertLess(Fraction(*dealer.debts()[0]), Fraction(*least(2)))


if __name__ == "__main__":
    unittest.main()
