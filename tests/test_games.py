"""Point 5.2: small games, gone through whole."""

import itertools
import unittest
from fractions import Fraction
from math import comb
from random import Random

from harmonicdues import games as module
from harmonicdues.dealing import Dealer, most
from harmonicdues.errors import NoDebts, NoGame, NoNumber, NoShares, TooMany
from harmonicdues.games import good_deals, worst_shares, worth
from tests.things import all_kinds, is_same, no_integers, no_shares, pair_of, pairs_of, snapshot, told_by

TWO = ((0, 1), (0, 1))
HALVES = (2, (1, 1))


def noughts(n):
    return ((0, 1),) * n


def all_shares(n, bottom):
    return [
        (bottom, tops) for tops in itertools.product(range(bottom + 1), repeat=n) if sum(tops) == bottom
    ]


def behind(debts, shares, person):
    bottom, tops = shares
    grown = [debt + Fraction(top, bottom) for debt, top in zip(debts, tops)]
    grown[person] -= 1
    return grown


def reckoned_deal(bottom, beats, debts, shares, person):
    """The least v for a first beat with these shares that is dealt to a person."""
    left = behind(debts, shares, person)
    if beats == 1:
        return max(left)
    return max(max(left), reckoned_worth(bottom, beats - 1, left))


def reckoned_shares(bottom, beats, debts, shares):
    return min(reckoned_deal(bottom, beats, debts, shares, person) for person in range(len(debts)))


def reckoned_worth(bottom, beats, debts):
    """The worth by going through all shares and all deals."""
    if beats == 0:
        return max(debts)
    return max(reckoned_shares(bottom, beats, debts, shares) for shares in all_shares(len(debts), bottom))


def rows_of(n, bottom, beats):
    return len(all_shares(n, bottom)) ** beats


def paths_of(n, bottom, beats):
    return rows_of(n, bottom, beats) * n ** beats


def small_games(most_paths):
    for n in range(1, 5):
        for bottom in range(1, 13):
            for beats in range(7):
                if paths_of(n, bottom, beats) <= most_paths:
                    yield (n, bottom, beats)


def all_games():
    return itertools.product(range(1, 5), range(1, 13), range(7))


def fractions_of(debts):
    return [Fraction(*debt) for debt in debts]


def some_debts(n, chance):
    debts = [Fraction(chance.randint(-4, 4), chance.choice((1, 2, 3, 4, 5, 12))) for _ in range(n - 1)]
    debts.insert(chance.randrange(n), -sum(debts, Fraction(0)))
    return pairs_of(debts)


class Interface(unittest.TestCase):
    def test_functions_stand_in_their_module(self):
        for name in ("worth", "good_deals", "worst_shares"):
            self.assertEqual(getattr(module, name).__module__, "harmonicdues.games")


class Same(unittest.TestCase):
    """All three against what comes of a going through of all shares and all deals."""

    def same(self, n, bottom, beats, debts, some_of_shares):
        given = fractions_of(debts)
        value = reckoned_worth(bottom, beats, given)
        self.assertTrue(is_same(worth(n, bottom, beats, debts), pair_of(value)))
        if beats == 0:
            return
        worst = [
            shares for shares in all_shares(n, bottom) if reckoned_shares(bottom, beats, given, shares) == value
        ]
        self.assertTrue(is_same(worst_shares(n, bottom, beats, debts), worst))
        for shares in some_of_shares(all_shares(n, bottom)):
            good = tuple(
                person for person in range(n) if reckoned_deal(bottom, beats, given, shares, person) <= value
            )
            self.assertGreater(len(good), 0)
            self.assertTrue(is_same(good_deals(n, bottom, beats, debts, shares), good))

    def test_from_no_debts_on(self):
        for n, bottom, beats in small_games(3000):
            self.same(n, bottom, beats, noughts(n), lambda shares: shares[::1 + len(shares) // 20])

    def test_from_drawn_debts_on(self):
        chance = Random(1)
        for n, bottom, beats in small_games(600):
            for _ in range(2):
                self.same(n, bottom, beats, some_debts(n, chance), lambda shares: chance.choices(shares, k=4))

    def test_debts_in_any_order(self):
        chance = Random(2)
        for n, bottom, beats in ((2, 3, 3), (3, 2, 2), (3, 1, 3), (4, 2, 1), (4, 1, 2)):
            debts = some_debts(n, chance)
            for order in itertools.permutations(debts):
                self.same(n, bottom, beats, order, lambda shares: shares[::3])

    def test_more_than_a_going_through_reaches(self):
        chance = Random(3)
        for n, bottom, beats in ((3, 2, 4), (4, 2, 2), (3, 3, 3), (2, 4, 5), (4, 1, 4), (4, 3, 2)):
            debts = some_debts(n, chance)
            value = worth(n, bottom, beats, debts)
            for _ in range(2):
                order = tuple(chance.sample(debts, n))
                self.assertEqual(worth(n, bottom, beats, order), value)
            worst = worst_shares(n, bottom, beats, debts)
            self.assertGreater(len(worst), 0)
            self.assertEqual(worst, sorted(set(worst)))
            for shares in worst[:3]:
                good = good_deals(n, bottom, beats, debts, shares)
                left = [
                    fractions_of(worth_behind(n, bottom, beats, debts, shares, person)) for person in range(n)
                ]
                self.assertEqual(min(left)[0], Fraction(*value))
                self.assertEqual(good, tuple(p for p in range(n) if left[p][0] <= Fraction(*value)))


def worth_behind(n, bottom, beats, debts, shares, person):
    """The worth from the debts on that stand behind a first beat."""
    left = pairs_of(behind(fractions_of(debts), shares, person))
    return (worth(n, bottom, beats - 1, left),)


class Worths(unittest.TestCase):
    def test_the_example_of_the_document(self):
        told = (worth(2, 2, 1, TWO), good_deals(2, 2, 1, TWO, (2, (2, 0))), worst_shares(2, 2, 1, TWO))
        self.assertTrue(is_same(told, ((1, 2), (0,), [HALVES])))

    def test_of_no_beat(self):
        for n, debts, value in (
            (1, ((0, 1),), (0, 1)), (2, ((-5, 3), (5, 3)), (5, 3)), (3, ((1, 6), (1, 3), (-1, 2)), (1, 3)),
            (4, ((7, 1), (-9, 2), (-5, 2), (0, 1)), (7, 1)), (2, ((10 ** 59, 1), (-10 ** 59, 1)), (10 ** 59, 1)),
        ):
            for bottom in range(1, 13):
                self.assertTrue(is_same(worth(n, bottom, 0, debts), value))

    def test_the_greatest_debt_of_now_does_not_count_if_beats_come(self):
        # A whole thing to person 0 each time keeps its debt; none of the others comes near.
        self.assertEqual(worth(2, 1, 1, ((3, 1), (-3, 1))), (3, 1))
        # It can fall, but need not: the shares may give just what is dealt.
        self.assertEqual(worth(2, 2, 1, ((1, 2), (-1, 2))), (1, 2))
        self.assertEqual(good_deals(2, 2, 1, ((1, 2), (-1, 2)), (2, (0, 2))), (0, 1))
        self.assertEqual(worst_shares(2, 2, 1, ((1, 2), (-1, 2))), [(2, (0, 2)), (2, (2, 0))])

    def test_of_one_person(self):
        for bottom in range(1, 13):
            for beats in range(7):
                self.assertEqual(worth(1, bottom, beats, ((0, 1),)), (0, 1))
                if beats > 0:
                    self.assertEqual(good_deals(1, bottom, beats, ((0, 1),), (bottom, (bottom,))), (0,))
                    self.assertEqual(worst_shares(1, bottom, beats, ((0, 1),)), [(bottom, (bottom,))])

    def test_the_step_of_games(self):
        just = 0
        for n, bottom, beats in all_games():
            if rows_of(n, bottom, beats) > 20000:
                continue
            value, bound = Fraction(*worth(n, bottom, beats, noughts(n))), Fraction(*most(n, beats))
            self.assertLessEqual(value, bound)
            if all(bottom % i == 0 for i in range(2, min(n, beats + 1) + 1)):
                self.assertEqual(value, bound)
                just += 1
        self.assertGreater(just, 80)

    def test_a_worth_below_most(self):
        self.assertEqual(worth(2, 1, 6, TWO), (0, 1))
        self.assertEqual(worth(2, 3, 1, TWO), (1, 3))
        self.assertEqual(worth(3, 2, 2, noughts(3)), (1, 2))

    def test_a_dealer_to_the_greatest_debt_keeps_most(self):
        for n, bottom, beats in ((2, 2, 3), (3, 6, 2), (4, 6, 1), (3, 3, 3)):
            for row in itertools.product(all_shares(n, bottom), repeat=beats):
                dealer = Dealer(n)
                for shares in row:
                    dealer.beat(shares)
                    greatest = max(fractions_of(dealer.debts()))
                    self.assertLessEqual(greatest, Fraction(*most(n, dealer.beats())))

    def test_great_debts(self):
        far = 10 ** 59
        debts = ((far, far - 1), (-far, far - 1))
        self.assertEqual(worth(2, 2, 3, debts), (far, far - 1))
        debts = ((1, far), (-1, far))
        # The thing goes to who has a little more, and a little less than 1/2 is left for the other one.
        self.assertEqual(worth(2, 2, 1, debts), (far // 2 - 1, far))


class NoGames(unittest.TestCase):
    def told_by_all(self, n, bottom, beats, debts, shares):
        """What each of the three raises."""
        return [
            told_by(worth, n, bottom, beats, debts), told_by(good_deals, n, bottom, beats, debts, shares),
            told_by(worst_shares, n, bottom, beats, debts),
        ]

    def refused(self, told, *given):
        self.assertEqual(self.told_by_all(*given), [told] * 3)

    def test_no_people(self):
        for n in [0, 5, -1, 12, 13, 10 ** 59] + no_integers():
            self.refused((NoGame, "people"), n, 2, 1, TWO, HALVES)
            self.refused((NoGame, "people"), n, 0, 7, None, None)
            self.refused((NoGame, "people"), n, None, None, None, None)

    def test_no_bottom(self):
        for bottom in [0, 13, -1, 360, 10 ** 59] + no_integers():
            self.refused((NoGame, "bottom"), 2, bottom, 1, TWO, HALVES)
            self.refused((NoGame, "bottom"), 2, bottom, 7, None, None)
            self.refused((NoGame, "bottom"), 4, bottom, 6, noughts(4), None)

    def test_no_beats(self):
        for beats in [7, -1, 8, 400, 10 ** 59] + no_integers():
            self.refused((NoGame, "beats"), 2, 2, beats, TWO, HALVES)
            self.refused((NoGame, "beats"), 2, 2, beats, None, None)
            self.refused((NoGame, "beats"), 4, 12, beats, noughts(4), (12, (12, 0, 0, 0)))

    def test_no_beat(self):
        for n in range(1, 5):
            for bottom in (1, 5, 12):
                for debts in (noughts(n), None):
                    for shares in ((bottom, (bottom,) + (0,) * (n - 1)), None):
                        told = self.told_by_all(n, bottom, 0, debts, shares)
                        self.assertEqual(told[1:], [(NoNumber,)] * 2)
                        self.assertEqual(told[0], None if debts else (NoDebts,))

    def test_no_debts(self):
        wrong = all_kinds() + [
            ((1, 2), (-1, 3)), ((0, 1),), noughts(3), list(TWO), ([0, 1], (0, 1)), ((0, 2), (0, 1)),
            ((False, 1), (0, 1)), ((1, 1), (-1, True)), ((2, 4), (-1, 2)), ((1, -2), (1, 2)), (),
        ]
        for debts in wrong:
            self.refused((NoDebts,), 2, 2, 1, debts, HALVES)
            # These games are too large, too.
            self.refused((NoDebts,), 2, 12, 6, debts, None)
            self.assertEqual(told_by(worth, 2, 2, 0, debts), (NoDebts,))
            self.refused((NoDebts,), 2, 12, 6, debts, (12, (6, 6)))

    def test_no_shares(self):
        for shares in no_shares(2):
            if shares != HALVES:
                self.assertEqual(told_by(good_deals, 2, 2, 1, TWO, shares), (NoShares,))
                self.assertEqual(told_by(good_deals, 2, 12, 6, TWO, shares), (NoShares,))
        for bottom in (1, 3, 4, 12, 360):
            self.assertEqual(told_by(good_deals, 2, 2, 1, TWO, (bottom, (bottom, 0))), (NoShares,))
            self.assertEqual(told_by(good_deals, 2, 5, 6, TWO, (bottom, (bottom, 0))), (NoShares,))
        for bottom in (1, 2, 3):
            shares = (bottom, (0, bottom))
            self.assertIsNone(told_by(good_deals, 2, bottom, 1, TWO, shares))

    def test_too_many(self):
        many = 0
        for n, bottom, beats in all_games():
            rows = comb(bottom + n - 1, n - 1) ** beats
            self.assertEqual(rows, rows_of(n, bottom, beats))
            debts, shares = noughts(n), (bottom, (bottom,) + (0,) * (n - 1))
            if rows > 20000:
                many += 1
                self.refused((TooMany, 20000), n, bottom, beats, debts, shares)
            elif beats > 0 and rows < 300:
                self.refused(None, n, bottom, beats, debts, shares)
            else:
                self.assertIsNone(told_by(worth, n, bottom, beats, debts))
        self.assertEqual(many, 99)

    def test_just_at_the_limit(self):
        for n, bottom, beats in (
            (2, 4, 6), (2, 6, 5), (2, 10, 4), (3, 12, 2), (4, 7, 2), (4, 12, 1), (4, 2, 4), (1, 12, 6),
        ):
            debts, shares = noughts(n), (bottom, (0,) * (n - 1) + (bottom,))
            self.assertLessEqual(rows_of(n, bottom, beats), 20000)
            self.refused(None, n, bottom, beats, debts, shares)
        for n, bottom, beats in (
            (2, 5, 6), (2, 7, 5), (2, 11, 4), (3, 12, 3), (4, 8, 2), (4, 12, 2), (4, 2, 5), (2, 12, 6),
        ):
            debts, shares = noughts(n), (bottom, (0,) * (n - 1) + (bottom,))
            self.assertGreater(rows_of(n, bottom, beats), 20000)
            self.refused((TooMany, 20000), n, bottom, beats, debts, shares)

    def test_kinds_of_the_fields(self):
        self.assertEqual(told_by(worth, True, 2, 1, TWO), (NoGame, "people"))
        self.assertEqual(told_by(worth, 2, True, 1, TWO), (NoGame, "bottom"))
        self.assertEqual(told_by(worth, 2, 2, True, TWO), (NoGame, "beats"))
        self.assertEqual(told_by(worth, 2, 2, False, TWO), (NoGame, "beats"))
        self.assertEqual(told_by(worst_shares, 2, 2, False, TWO), (NoGame, "beats"))


class New(unittest.TestCase):
    def test_lists_are_new_each_time(self):
        one, other = worst_shares(2, 4, 2, TWO), worst_shares(2, 4, 2, TWO)
        self.assertIs(type(one), list)
        self.assertIsNot(one, other)
        ahead = list(other)
        one.append(None)
        one[0] = None
        self.assertEqual((other, worst_shares(2, 4, 2, TWO)), (ahead, ahead))

    def test_nothing_is_changed(self):
        for debts in ([(0, 1), (0, 1)], ([0, 1], [0, 1]), TWO):
            for shares in ([2, (1, 1)], (2, [1, 1]), HALVES):
                ahead = snapshot([debts, shares])
                told_by(worth, 2, 2, 1, debts)
                told_by(good_deals, 2, 2, 1, debts, shares)
                told_by(worst_shares, 2, 2, 1, debts)
                self.assertEqual([debts, shares], ahead)


if __name__ == "__main__":
    unittest.main()
