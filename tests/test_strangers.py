"""Points 9.1 and 9.2: strangers' ways, planners and accounts, judged."""

import unittest
from fractions import Fraction
from random import Random

from harmonicdues import strangers as module
from harmonicdues.ahead import plan
from harmonicdues.dealing import dealt, debts_behind
from harmonicdues.errors import BadWay, NoPeople, NoPerson, NoPlan, NoRow, NoThings
from harmonicdues.foes import against
from harmonicdues.policies import Policy
from harmonicdues.strangers import account_of, is_right_account, led, lightest_way, planned
from tests.test_ahead import no_plans, reckoned_astray
from tests.test_foes import by_table, greatest_way, in_turn, least_way, shareless_way
from tests.things import (
    all_kinds, is_same, no_integers, no_people, no_persons, no_rows, otherwise, pair_of, pairs_of, snapshot, some_row,
    some_shares, told_by,
)

HALVES = (2, (1, 1))
TWO = (HALVES, HALVES)
NAMES = ("led", "lightest_way", "planned", "account_of", "is_right_account")
KEYS = ("deals", "debts", "greatest")


def bound(n, beats):
    return sum((Fraction(1, i) for i in range(2, min(n, beats + 1) + 1)), Fraction(0))


def reckoned_behind(n, row, deals):
    debts, behind = [Fraction(0)] * n, []
    for (bottom, tops), person in zip(row, deals):
        debts = [debt + Fraction(top, bottom) for debt, top in zip(debts, tops)]
        debts[person] -= 1
        behind.append(debts)
    return behind


def reckoned_led(n, row, way):
    """What comes of a way, and the views that it is shown."""
    deals, views = [], []
    for beat, shares in enumerate(row):
        behind = reckoned_behind(n, row, deals)
        views.append((pairs_of(behind[-1]) if behind else ((0, 1),) * n, shares, beat))
        person = way(views[-1])
        if type(person) is not int or not 0 <= person < n:
            return ("wrong", beat), views
        deals.append(person)
    behind = reckoned_behind(n, row, deals)
    places = [(beat, person) for beat in range(len(row)) for person in range(n)]
    for beat, person in places:
        if behind[beat][person] > bound(n, beat + 1):
            return ("above", beat, person), views
    for beat, person in places:
        if behind[beat][person] < Fraction(1, n) - 1:
            return ("below", beat, person), views
    return ("kept", tuple(deals)), views


def reckoned_account(n, row, deals):
    behind = reckoned_behind(n, row, deals)
    greatest = max([Fraction(0)] + [max(debts) for debts in behind])
    return {"deals": list(deals), "debts": [pairs_of(debts) for debts in behind], "greatest": pair_of(greatest)}


def reckoned_right(n, row, thing):
    """Whether a thing is an account, reckoned anew from its deals."""
    if type(thing) is not dict or not all(key in thing for key in KEYS):
        return False
    deals = thing["deals"]
    if type(deals) is not list or len(deals) != len(row):
        return False
    if not all(type(person) is int and 0 <= person < n for person in deals):
        return False
    if not is_same({key: thing[key] for key in KEYS}, reckoned_account(n, row, deals)):
        return False
    for beat, debts in enumerate(reckoned_behind(n, row, deals)):
        if max(debts) > bound(n, beat + 1) or min(debts) < Fraction(1, n) - 1:
            return False
    return True


def rows(n, chance):
    yield ()
    yield some_row(n, 1, 1, chance)
    yield some_row(n, 1, 12, chance)
    yield (some_shares(n, 1, 7, chance),) * 9
    yield ((n, (1,) * n),) * (2 * n)
    yield against(n, 400, greatest_way)[0]


class Interface(unittest.TestCase):
    def test_functions_stand_in_their_module(self):
        for name in NAMES:
            self.assertEqual(getattr(module, name).__module__, "harmonicdues.strangers")


class Refused(unittest.TestCase):
    def refused(self, told, n, m, row):
        def asked(*given):
            self.fail("asked")

        if is_same(m, 1):
            self.assertEqual(told_by(led, n, row, asked), told)
            self.assertEqual(told_by(account_of, n, row), told)
            for thing in (None, {}, {"deals": [], "debts": [], "greatest": (0, 1)}):
                self.assertEqual(told_by(is_right_account, n, row, thing), told)
        self.assertEqual(told_by(planned, n, m, row, asked), told)

    def test_no_people(self):
        for n in no_people():
            self.refused((NoPeople,), n, 1, ())
            self.refused((NoPeople,), n, 1, None)
            self.refused((NoPeople,), n, None, None)

    def test_no_things(self):
        for n in (1, 2, 12):
            for m in [0, n + 1, -1, 13, 10 ** 59] + no_integers():
                self.refused((NoThings,), n, m, ())
                self.refused((NoThings,), n, m, None)

    def test_no_row(self):
        for row, at in no_rows():
            self.refused((NoRow, at), 2, 1, row)
        self.refused((NoRow, 0), 2, 2, TWO)
        self.refused((NoRow, 1), 3, 1, ((3, (1, 1, 1)), HALVES))
        self.refused((NoRow, -1), 2, 1, (HALVES,) * 401)


class Led(unittest.TestCase):
    def same(self, n, row, way):
        told, views = reckoned_led(n, row, way)
        seen = []

        def looking(view):
            seen.append(view)
            return way(view)

        self.assertTrue(is_same(led(n, row, looking), told))
        self.assertTrue(is_same(seen, views))
        return told[0]

    def test_ways_of_all_kinds(self):
        chance = Random(1)
        told = []
        for n in range(1, 13):
            for row in rows(n, chance):
                for way in (greatest_way, least_way, shareless_way, in_turn, lambda view: 0, lambda view: n - 1):
                    told.append(self.same(n, row, way))
                for _ in range(3):
                    told.append(self.same(n, row, by_table([chance.randrange(n) for _ in range(24)])))
                at = chance.randrange(24)
                told.append(self.same(n, row, by_table([0] * at + [n] + [0] * 24)))
        for word in ("kept", "above", "below", "wrong"):
            self.assertGreater(told.count(word), 20)

    def test_ways_to_the_greatest_debt_are_kept(self):
        chance = Random(2)
        for n in range(1, 13):
            for row in rows(n, chance):
                self.assertTrue(is_same(led(n, row, greatest_way), ("kept", tuple(dealt(n, row)))))

    def test_small_rows(self):
        self.assertEqual(led(2, TWO, by_table([0, 0])), ("above", 1, 1))
        self.assertEqual(led(2, TWO, by_table([0, 1])), ("kept", (0, 1)))
        self.assertEqual(led(2, TWO, by_table([1, 0])), ("kept", (1, 0)))
        self.assertEqual(led(2, ((3, (1, 2)),), by_table([0])), ("above", 0, 1))
        self.assertEqual(led(3, ((3, (1, 1, 1)),) * 2, by_table([0, 0])), ("below", 1, 0))
        self.assertEqual(led(1, ((1, (1,)),) * 2, by_table([0, 0])), ("kept", (0, 0)))
        self.assertEqual(led(1, (), by_table([])), ("kept", ()))

    def test_above_comes_ahead_of_below(self):
        # Behind beat 1 the debt of person 0 is below, behind beat 2 those of 1 and 2 are above.
        row = ((3, (1, 1, 1)),) * 3
        self.assertEqual(led(3, row[:2], by_table([0, 0])), ("below", 1, 0))
        self.assertEqual(led(3, row, by_table([0, 0, 0])), ("above", 2, 1))
        self.assertEqual(led(3, row, by_table([2, 2, 2])), ("above", 2, 0))
        self.assertEqual(led(3, row, by_table([0, 2, 2])), ("above", 2, 1))
        # It is above behind beat 0 already, and below there, too.
        self.assertEqual(led(3, ((1, (1, 0, 0)),), by_table([1])), ("above", 0, 0))

    def test_wrong_comes_ahead_of_both(self):
        self.assertEqual(led(2, ((1, (1, 0)),) * 3, by_table([1, 1, 2])), ("wrong", 2))
        self.assertEqual(led(2, ((1, (1, 0)),) * 3, by_table([1, None, 2])), ("wrong", 1))

    def test_debts_just_at_the_bounds_are_kept(self):
        for n in range(2, 13):
            row, deals, person, debt = against(n, 400, greatest_way)
            self.assertEqual(led(n, row, greatest_way), ("kept", tuple(deals)))
            self.assertEqual(Fraction(*debt), bound(n, len(row)))
        self.assertEqual(led(4, ((4, (1, 1, 1, 1)),), by_table([3])), ("kept", (3,)))

    def test_a_way_that_tells_no_person(self):
        for n in (1, 2, 12):
            row = ((1, (1,) + (0,) * (n - 1)),) * 4
            for thing in no_persons(n):
                for at in range(4):
                    table = [0] * 4
                    table[at] = thing
                    self.assertTrue(is_same(led(n, row, by_table(table)), ("wrong", at)))
            self.assertTrue(is_same(led(n, row, lambda view: None), ("wrong", 0)))

    def test_it_is_not_asked_behind_a_wrong_beat(self):
        seen = []

        def wrong(view):
            seen.append(view[2])
            return True if view[2] == 1 else 0

        self.assertEqual(led(2, TWO * 3, wrong), ("wrong", 1))
        self.assertEqual(seen, [0, 1])

    def test_errors_of_its_own_go_on(self):
        for error in (KeyError("a"), ValueError("b"), NoPerson(), NoRow(3), BadWay(7), ZeroDivisionError()):
            for at in (0, 3):
                def wrong(view):
                    if view[2] == at:
                        raise error
                    return 0

                with self.assertRaises(type(error)) as context:
                    led(2, TWO * 3, wrong)
                self.assertIs(context.exception, error)

    def test_four_hundred_beats(self):
        chance = Random(3)
        for n in (2, 12):
            row = tuple(some_shares(n, 1, chance.randint(1, 360), chance) for _ in range(400))
            self.assertEqual(led(n, row, greatest_way), ("kept", tuple(dealt(n, row))))
        self.assertEqual(led(2, (HALVES,) * 400, in_turn), ("kept", (0, 1) * 200))
        self.assertEqual(led(2, (HALVES,) * 398 + ((1, (1, 0)),) * 2, in_turn), ("above", 399, 0))

    def test_what_it_tells_is_not_changed(self):
        told = [0]
        self.assertEqual(led(2, TWO, lambda view: told), ("wrong", 0))
        self.assertEqual(told, [0])


class LightestWay(unittest.TestCase):
    def test_kept_for_every_row(self):
        chance = Random(4)
        for n in range(1, 13):
            for row in rows(n, chance):
                told = led(n, row, lightest_way)
                self.assertEqual(told[0], "kept")
                self.assertTrue(is_same(led(n, row, lightest_way), told))

    def test_against_foes(self):
        for n in range(1, 13):
            for beats in (1, 2, 3, 11, 400):
                row, deals, _, _ = against(n, beats, lightest_way)
                self.assertEqual(led(n, row, lightest_way), ("kept", tuple(deals)))

    def test_twelve_people_and_four_hundred_beats(self):
        chance = Random(5)
        row = tuple(some_shares(12, 1, chance.randint(1, 360), chance) for _ in range(400))
        told = led(12, row, lightest_way)
        self.assertEqual(told[0], "kept")
        self.assertEqual(led(12, row, lightest_way), told)

    def test_it_tells_a_person(self):
        self.assertIs(type(lightest_way((((0, 1), (0, 1)), HALVES, 0))), int)
        self.assertIn(lightest_way((((0, 1), (0, 1)), HALVES, 0)), (0, 1))
        self.assertEqual(lightest_way((((-1, 2), (1, 2)), HALVES, 1)), 1)
        self.assertEqual(lightest_way((((1, 2), (-1, 2)), HALVES, 1)), 0)
        self.assertEqual(lightest_way((((-2, 3), (-1, 6), (5, 6)), (1, (1, 0, 0)), 2)), 2)


class Planned(unittest.TestCase):
    def test_the_planner_is_asked_with_just_this(self):
        chance = Random(6)
        for n, m in ((1, 1), (2, 1), (3, 2), (12, 5), (12, 12)):
            row = some_row(n, m, 5, chance)
            seen = []

            def asked(*given):
                seen.append(given)
                return plan(*given)

            self.assertTrue(is_same(planned(n, m, row, asked), ("kept", plan(n, m, row))))
            self.assertTrue(is_same(seen, [(n, m, row)]))

    def test_plans_that_keep_and_plans_that_go_astray(self):
        chance = Random(7)
        told = [0, 0]
        for _ in range(600):
            n = chance.randint(1, 6)
            m = chance.randint(1, n)
            row = some_row(n, m, chance.randint(0, 6), chance)
            if chance.random() < 0.5:
                lots = tuple(tuple(sorted(chance.sample(range(n), m))) for _ in row)
            else:
                lots = plan(n, m, row)
            place = reckoned_astray(n, row, lots)
            right = ("kept", lots) if place is None else ("astray",) + place
            self.assertTrue(is_same(planned(n, m, row, lambda *given: lots), right))
            told[place is None] += 1
        self.assertGreater(min(told), 50)

    def test_no_plan(self):
        for n, m, beats in ((2, 1, 1), (3, 2, 2), (12, 5, 3), (4, 4, 2), (2, 1, 3)):
            row = ((n, (m,) * n),) * beats
            for thing in no_plans(n, m, beats):
                self.assertTrue(is_same(planned(n, m, row, lambda *given: thing), ("wrong",)))
        for thing in all_kinds():
            right = ("kept", ()) if is_same(thing, ()) else ("wrong",)
            self.assertTrue(is_same(planned(2, 1, (), lambda *given: thing), right))

    def test_errors_of_the_planner_go_on(self):
        for error in (KeyError("a"), ValueError("b"), NoPlan(), NoRow(3), NoPeople()):
            def wrong(n, m, row):
                raise error

            with self.assertRaises(type(error)) as context:
                planned(2, 1, TWO, wrong)
            self.assertIs(context.exception, error)

    def test_what_it_tells_is_not_changed(self):
        for lots in ([[0], [1]], ([0], [1]), {0: [0]}):
            ahead = snapshot(lots)
            self.assertEqual(planned(2, 1, TWO, lambda *given: lots), ("wrong",))
            self.assertEqual(lots, ahead)


class AccountOf(unittest.TestCase):
    def test_rows_of_all_sizes(self):
        chance = Random(8)
        for n in range(1, 13):
            for row in rows(n, chance):
                told = account_of(n, row)
                self.assertTrue(is_same(told, reckoned_account(n, row, dealt(n, row))))
                self.assertEqual(told["debts"], debts_behind(n, row, told["deals"]))

    def test_small_rows(self):
        self.assertTrue(is_same(account_of(2, ()), {"deals": [], "debts": [], "greatest": (0, 1)}))
        told = {"deals": [0], "debts": [((-1, 2), (1, 2))], "greatest": (1, 2)}
        self.assertTrue(is_same(account_of(2, (HALVES,)), told))
        told = {"deals": [0, 0], "debts": [((0, 1),)] * 2, "greatest": (0, 1)}
        self.assertTrue(is_same(account_of(1, ((3, (3,)),) * 2), told))

    def test_the_greatest_behind_any_beat(self):
        row = ((3, (1, 1, 1)), (2, (0, 1, 1)), (1, (0, 0, 1)), (3, (2, 1, 0)))
        told = account_of(3, row)
        self.assertEqual(told["deals"], [0, 1, 2, 2])
        self.assertEqual(told["greatest"], (5, 6))
        self.assertEqual(told["debts"][3], ((0, 1), (1, 6), (-1, 6)))

    def test_four_hundred_beats(self):
        row = (HALVES,) * 400
        told = {"deals": [0, 1] * 200, "debts": [((-1, 2), (1, 2)), ((0, 1), (0, 1))] * 200, "greatest": (1, 2)}
        self.assertTrue(is_same(account_of(2, row), told))
        self.assertIs(is_right_account(2, row, told), True)

    def test_dicts_and_lists_are_new_each_time(self):
        one, other = account_of(2, TWO), account_of(2, TWO)
        self.assertIs(type(one), dict)
        ahead = snapshot(other)
        one["deals"].append(1)
        one["debts"][0] = None
        one["debts"].append(1)
        one["greatest"] = 1
        one["more"] = 2
        self.assertEqual((other, account_of(2, TWO)), (ahead, ahead))
        one = account_of(2, ())
        one["deals"].append(1)
        one["debts"].append(1)
        self.assertEqual(account_of(2, ()), {"deals": [], "debts": [], "greatest": (0, 1)})


class IsRightAccount(unittest.TestCase):
    def test_what_account_of_told(self):
        chance = Random(9)
        for n in range(1, 13):
            for row in rows(n, chance):
                self.assertIs(is_right_account(n, row, account_of(n, row)), True)
        row = tuple(some_shares(12, 1, chance.randint(1, 360), chance) for _ in range(400))
        self.assertIs(is_right_account(12, row, account_of(12, row)), True)

    def test_other_deals(self):
        chance = Random(10)
        told = [0, 0]
        for _ in range(1600):
            n = chance.randint(1, 5)
            row = some_row(n, 1, chance.randint(0, 5), chance)
            deals = dealt(n, row)
            for at in range(len(deals)):
                if chance.random() < 0.3:
                    deals[at] = chance.randrange(n)
            account = reckoned_account(n, row, deals)
            right = is_right_account(n, row, account)
            self.assertIs(right, reckoned_right(n, row, account))
            told[right] += deals != dealt(n, row)
        self.assertGreater(min(told), 50)

    def test_within_and_beyond_the_bounds(self):
        for deals, told in (([0, 1], True), ([1, 0], True), ([0, 0], False), ([1, 1], False)):
            self.assertIs(is_right_account(2, TWO, reckoned_account(2, TWO, deals)), told)
        # Debts below least alone: behind beat 1 person 0 has -4/3, the others have 2/3 each.
        row = ((3, (1, 1, 1)),) * 2
        account = reckoned_account(3, row, [0, 0])
        self.assertEqual(account["debts"][1], ((-4, 3), (2, 3), (2, 3)))
        self.assertIs(is_right_account(3, row, account), False)
        # A debt above most behind one beat, though it is not above most behind three.
        row = ((6, (1, 1, 4)), (1, (0, 0, 1)), (1, (0, 0, 1)))
        account = reckoned_account(3, row, [0, 2, 2])
        self.assertEqual(account["greatest"], (2, 3))
        self.assertIs(is_right_account(3, row, account), False)
        self.assertIs(is_right_account(3, row, reckoned_account(3, row, [2, 2, 2])), True)

    def test_one_thing_otherwise(self):
        chance = Random(11)
        right = 0
        for n in (1, 2, 3, 4):
            for row in rows(n, chance):
                account = account_of(n, row)
                for thing in otherwise(account):
                    told = is_right_account(n, row, thing)
                    self.assertIs(told, reckoned_right(n, row, thing))
                    right += told and not is_same(thing, account)
        self.assertEqual(right, 0)

    def test_keys_out_and_more(self):
        account = account_of(2, TWO)
        for key in KEYS:
            self.assertIs(is_right_account(2, TWO, {k: account[k] for k in KEYS if k != key}), False)
            self.assertIs(is_right_account(2, TWO, {**account, key: None}), False)
            self.assertIs(is_right_account(2, TWO, {**account, key + "s": account[key]}), True)
        for key in ("more", "", 0, None, (1, 2), b"deals", -1, "Deals", ("deals",)):
            for thing in (None, [], {}, account):
                self.assertIs(is_right_account(2, TWO, {**account, key: thing}), True)
        self.assertIs(is_right_account(2, TWO, dict(reversed(account.items()))), True)

    def test_flags_and_terms(self):
        account = account_of(2, TWO)
        self.assertEqual(account, {"deals": [0, 1], "debts": [((-1, 2), (1, 2)), ((0, 1), (0, 1))], "greatest": (1, 2)})
        first, last = account["debts"]
        for key, thing in (
            ("deals", [False, 1]), ("deals", [0, True]), ("debts", [((-1, 2), (True, 2)), last]),
            ("debts", [first, ((False, 1), (0, 1))]), ("debts", [first, ((0, 1), (0, True))]), ("greatest", (True, 2)),
            ("debts", [((-2, 4), (1, 2)), last]), ("debts", [first, ((0, 2), (0, 1))]), ("greatest", (2, 4)),
            ("debts", [first, ((0, -1), (0, 1))]), ("greatest", (-1, -2)), ("greatest", [1, 2]), ("deals", (0, 1)),
            ("debts", (first, last)), ("debts", [list(first), last]), ("debts", [([-1, 2], (1, 2)), last]),
            ("greatest", (0, 1)), ("greatest", (5, 6)), ("greatest", (1, 1)), ("greatest", 0), ("greatest", None),
            ("deals", [1, 0]), ("deals", [0]), ("deals", [0, 1, 0]), ("deals", [0, 2]), ("debts", [first]),
            ("debts", [first, last, last]), ("debts", [last, first]), ("deals", {0: 0, 1: 1}), ("deals", [0, None]),
        ):
            self.assertIs(is_right_account(2, TWO, {**account, key: thing}), False)
        self.assertIs(is_right_account(2, TWO, account), True)
        empty = {"deals": [], "debts": [], "greatest": (0, 1)}
        self.assertIs(is_right_account(2, (), empty), True)
        for key, thing in (
            ("greatest", (False, 1)), ("greatest", (0, True)), ("greatest", (1, 2)), ("deals", ()), ("debts", ()),
            ("greatest", (-1, 2)), ("deals", [0]), ("debts", [((0, 1), (0, 1))]), ("deals", {}), ("debts", {}),
        ):
            self.assertIs(is_right_account(2, (), {**empty, key: thing}), False)

    def test_things_of_all_kinds(self):
        account = account_of(2, TWO)
        for thing in all_kinds():
            self.assertIs(is_right_account(2, TWO, thing), False)
            self.assertIs(is_right_account(2, (), thing), False)
            for key in KEYS:
                told = is_right_account(2, TWO, {**account, key: thing})
                self.assertIs(told, is_same(thing, account[key]))
            self.assertIs(is_right_account(2, TWO, {**account, "deals": [0, thing]}), is_same(thing, 1))
            self.assertIs(is_right_account(2, TWO, {**account, "debts": [account["debts"][0], thing]}), False)
            self.assertIs(is_right_account(2, TWO, {**account, "debts": [account["debts"][0], (thing, (0, 1))]}), False)
            self.assertIs(is_right_account(2, TWO, {**account, "greatest": (thing, 2)}), is_same(thing, 1))
            self.assertIs(is_right_account(2, TWO, {**account, "greatest": (1, thing)}), is_same(thing, 2))
        for thing in ([account], (account,), list(account.items()), "account", account_of, Policy(2, ())):
            self.assertIs(is_right_account(2, TWO, thing), False)

    def test_accounts_of_other_rows(self):
        for n, row in ((2, TWO), (2, TWO[:1]), (2, ()), (3, ((3, (1, 1, 1)),) * 2), (2, ((1, (1, 0)),) * 2)):
            for many, other in ((2, TWO), (2, TWO[:1]), (2, ()), (3, ((3, (1, 1, 1)),) * 2), (2, ((1, (1, 0)),) * 2)):
                told = is_right_account(n, row, account_of(many, other))
                self.assertIs(told, (n, row) == (many, other))

    def test_nothing_is_changed(self):
        account = account_of(2, TWO)
        for thing in (account, {**account, "debts": [[[0, 1]]], "deals": [[0], 1]}, {**account, "greatest": [1, 2]}):
            ahead = snapshot(thing)
            is_right_account(2, TWO, thing)
            self.assertEqual(thing, ahead)


if __name__ == "__main__":
    unittest.main()
