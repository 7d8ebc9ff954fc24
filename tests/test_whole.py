"""The document as a whole: its interface, its examples, and what several modules tell of the same."""

import importlib
import inspect
import unittest
from fractions import Fraction
from random import Random

from harmonicdues.ahead import astray, is_plan, plan, windows
from harmonicdues.dealing import Dealer, dealt, debts_behind, least, most
from harmonicdues.desk import Desk, tale
from harmonicdues.errors import DuesError
from harmonicdues.foes import against, is_against
from harmonicdues.games import good_deals, worst_shares, worth
from harmonicdues.greatest import allowed, breach, greatest, is_calm, reasons, step
from harmonicdues.house import House
from harmonicdues.policies import Policy
from harmonicdues.policytexts import policy_text, read_policy
from harmonicdues.refusals import bar, is_bar, is_plan_with, least_refused, plan_with
from harmonicdues.shares import got, got_by, is_row, is_shares
from harmonicdues.strangers import account_of, is_right_account, led, lightest_way, planned
from harmonicdues.tellers import Teller
from harmonicdues.texts import fraction_text, lots_text, read_lots, read_row, row_text
from tests.test_games import all_shares
from tests.things import FIELDS, all_kinds, is_same, snapshot, some_policy, some_row, told_by

HALVES = (2, (1, 1))
ONE = ("num", 1)
ALIKE = Policy(2, (("weight", ONE),))

# What the interface lists: in each module its functions with how many arguments they take, and its classes likewise.
INTERFACE = {
    "shares": {"is_shares": 3, "is_row": 3, "got": 3, "got_by": 3},
    "policies": {"Policy": 2},
    "tellers": {"Teller": 2},
    "policytexts": {"policy_text": 1, "read_policy": 1},
    "dealing": {"Dealer": 1, "dealt": 2, "debts_behind": 3, "most": 2, "least": 1},
    "greatest": {"greatest": 3, "step": 3, "allowed": 3, "is_calm": 3, "breach": 3, "reasons": 3},
    "foes": {"against": 3, "is_against": 3},
    "games": {"worth": 4, "good_deals": 5, "worst_shares": 4},
    "ahead": {"is_plan": 4, "plan": 3, "astray": 4, "windows": 4},
    "refusals": {"plan_with": 3, "is_plan_with": 4, "is_bar": 4, "bar": 3, "least_refused": 3},
    "house": {"House": 2},
    "strangers": {"led": 3, "planned": 4, "lightest_way": 1, "account_of": 2, "is_right_account": 3},
    "texts": {"fraction_text": 1, "row_text": 3, "lots_text": 1, "read_row": 1, "read_lots": 1},
    "desk": {"Desk": 2, "tale": 3},
}
METHODS = {
    "Teller": {"shares": 3, "turned": 1, "copy": 0, "kept": 0, "owned": 1},
    "Dealer": {"beat": 1, "beats": 0, "deal": 2, "debts": 0, "things": 0, "copy": 0},
    "House": {
        "beat": 1, "come": 1, "turn": 1, "leave": 1, "debts": 0, "things": 0, "waiting": 0, "here": 0, "row": 0,
        "foreseen": 2, "deals": 0, "settle": 0, "plan_ahead": 2, "copy": 0,
    },
    "Desk": {"tell": 1},
}


def everything():
    """Each thing that the interface lists, with its name and how many arguments it takes."""
    for module, names in INTERFACE.items():
        for name, many in names.items():
            yield name, many, getattr(importlib.import_module("harmonicdues." + module), name)


def worths(debts):
    return [Fraction(*debt) for debt in debts]


def some_needs(n, chance):
    return tuple(chance.randint(0, 9) for _ in range(n))


def lived(n, beats, chance):
    """A house behind so many beats in which it was turned and people left and came, and all debts behind each."""
    house, debts = House(n, some_policy(chance)), []
    while len(debts) < beats:
        deed = chance.random()
        away = [person for person in range(n) if person not in house.here()]
        if deed < 0.1:
            house.turn(some_policy(chance))
        elif deed < 0.25 and len(away) < n - 1:
            house.leave(chance.choice(house.here()))
        elif deed < 0.35 and away:
            house.come(chance.choice(away))
        else:
            house.beat(some_needs(n, chance))
            debts.append(house.debts())
    return house, debts


class Interface(unittest.TestCase):
    def test_each_name_stands_in_its_module(self):
        for module, names in INTERFACE.items():
            for name in names:
                thing = getattr(importlib.import_module("harmonicdues." + module), name)
                self.assertEqual((thing.__module__, thing.__name__), ("harmonicdues." + module, name))

    def test_what_each_takes_by_position(self):
        for name, many, thing in everything():
            with self.subTest(name):
                inspect.signature(thing).bind(*range(many))
                self.assertRaises(TypeError, inspect.signature(thing).bind, *range(many + 1))

    def test_methods_stand_in_their_class(self):
        for name, _, thing in everything():
            for method, many in METHODS.get(name, {}).items():
                with self.subTest(name, method=method):
                    inspect.signature(vars(thing)[method]).bind(None, *range(many))

    def test_attributes_of_a_policy(self):
        policy = Policy(2, ())
        self.assertEqual(sorted(vars(policy)), ["block", "bottom"])

    def test_all_that_is_asked_judges_with_a_flag(self):
        row = (HALVES,)
        for thing in all_kinds():
            for told in (
                is_shares(2, 1, thing), is_row(2, 1, thing), is_calm(2, 1, thing), is_against(2, 1, thing),
                is_plan(2, 1, row, thing), is_plan_with(2, row, ((),), thing), is_bar(2, row, ((),), thing),
                is_right_account(2, row, thing),
            ):
                self.assertIn(told, (True, False))
                self.assertIs(type(told), bool)

    def test_no_other_error_is_raised_by_what_is_passed_first(self):
        """An argument of any kind in the first place: the errors of this package, or none."""
        for name, many, thing in everything():
            for first in all_kinds():
                given = (first,) + (None,) * (many - 1)
                if name == "lightest_way":
                    continue
                told = told_by(thing, *given)
                if told is not None:
                    self.assertIn(told[0].__name__, FIELDS)
                    self.assertTrue(issubclass(told[0], DuesError))


class Examples(unittest.TestCase):
    def same(self, told, right):
        self.assertTrue(is_same(told, right), (told, right))

    def test_e01_and_e02(self):
        d = Dealer(3)
        told = (d.beat((3, (1, 1, 1))), d.debts(), d.beat((2, (0, 1, 1))), d.debts())
        self.same(told, (0, ((-2, 3), (1, 3), (1, 3)), 1, ((-2, 3), (-1, 6), (5, 6))))
        told = (most(3, 1), most(3, 2), most(3, 9), least(3), allowed(3, 1, 2))
        self.same(told, ((1, 2), (5, 6), (5, 6), (-2, 3), (2, 3)))

    def test_e03_and_e04(self):
        r = ((2, (1, 1)), (2, (1, 1)), (2, (1, 1)))
        told = (
            windows(2, 1, r, 0), is_plan(2, 1, r, ((0,), (1,), (1,))), is_plan(2, 1, r, ((0,), (0,), (1,))),
        )
        self.same(told, ([(0, 1), (2, None)], True, False))
        r, f = ((2, (1, 1)), (2, (1, 1))), ((0,), (0,))
        told = (
            plan_with(2, r, f), is_bar(2, r, f, ("things", ((0, 1),))), is_bar(2, r, f, ("beats", (0, 1))),
            least_refused(2, r, f),
        )
        self.same(told, (None, True, True, (1, (0,))))

    def test_e05(self):
        p = Policy(6, (
            ("weight", ("+", ("fact", "need"), ("num", 1))),
            ("if", ("=", ("fact", "person"), ("num", 0)), (("cap", ("num", 2)),), ()),
        ))
        told = (Teller(3, p).shares((5, 2, 0), (0, 1, 2), (0, 0, 0)), policy_text(p))
        self.same(told, ((6, (2, 3, 1)), "bottom 6\nweight (need + 1)\nif (person = 0) do\ncap 2\nend\n"))

    def test_e06_and_e07(self):
        self.same(against(3, 9, lambda view: 0), (((3, (1, 1, 1)), (2, (0, 1, 1))), [0, 0], 1, (5, 6)))
        z = ((0, 1), (0, 1))
        told = (worth(2, 2, 1, z), good_deals(2, 2, 1, z, (2, (2, 0))), worst_shares(2, 2, 1, z))
        self.same(told, ((1, 2), (0,), [(2, (1, 1))]))

    def test_e08_and_e09(self):
        h = House(2, Policy(2, (("weight", ("num", 1)),)))
        told = (h.beat((0, 0)), h.settle(), h.foreseen((0, 0), 2))
        self.same(told, (0, [(0, 1, (1, 2))], ((2, (1, 1)), (2, (1, 1)))))
        told = (fraction_text((-2, 3)), row_text(2, 1, ((3, (1, 2)),)), read_lots("0,1\n-\n"))
        self.same(told, ("-2/3", "row 2 1\nshares 3 1,2\n", ((0, 1), ())))

    def test_e10(self):
        p = Policy(2, (("weight", ("num", 1)),))
        lines = [
            "shares", "beat 0,0", "shares", "debts", "beat 0,0", "deals", "leave 1", "leave 0", "settle", "beat 1",
        ]
        told = ["none", "0", "2:1,1", "-1/2 1/2", "1", "0 1", "ok", "(LastOne)", "none", "(NoNeeds)"]
        self.same(tale(2, p, lines), told)


class Houses(unittest.TestCase):
    """What all modules tell of the row of a house."""

    def houses(self, seed, beats=25):
        chance = Random(seed)
        for n in range(1, 13):
            yield n, chance, *lived(n, beats, chance)

    def test_a_dealer_led_by_the_row_deals_as_the_house_did(self):
        for n, _, house, behind in self.houses(1):
            dealer = Dealer(n)
            self.assertEqual([dealer.beat(shares) for shares in house.row()], house.deals())
            self.assertEqual((dealer.debts(), dealer.things()), (house.debts(), house.things()))
            self.assertEqual(dealt(n, house.row()), house.deals())
            self.assertEqual(debts_behind(n, house.row(), house.deals()), behind)

    def test_strangers_tell_the_same_of_it(self):
        for n, _, house, behind in self.houses(2):
            row, deals = house.row(), house.deals()
            account = account_of(n, row)
            highest = max(max(worths(debts)) for debts in behind)
            self.assertEqual((account["deals"], account["debts"]), (deals, behind))
            self.assertEqual(Fraction(*account["greatest"]), max(highest, 0))
            self.assertIs(is_right_account(n, row, account), True)
            self.assertEqual(led(n, row, lambda view: deals[view[2]]), ("kept", tuple(deals)))
            self.assertEqual(led(n, row, lambda view: step(n, view[0], view[1])[0]), ("kept", tuple(deals)))
            self.assertEqual(led(n, row, lightest_way)[0], "kept")

    def test_debts_are_what_was_got_less_the_things(self):
        for n, _, house, behind in self.houses(3):
            sums = got_by(n, 1, house.row())
            self.assertEqual(sums[-1], got(n, 1, house.row()))
            things = [0] * n
            for beat, person in enumerate(house.deals()):
                things[person] += 1
                debts = [got - many for got, many in zip(worths(sums[beat]), things)]
                self.assertEqual(debts, worths(behind[beat]))
            self.assertEqual(tuple(things), house.things())

    def test_all_debts_are_calm(self):
        for n, _, house, behind in self.houses(4):
            for beat, debts in enumerate(behind):
                self.assertIs(is_calm(n, beat + 1, debts), True)
                self.assertIsNone(breach(n, beat + 1, debts))
                self.assertLessEqual(max(worths(debts)), Fraction(*most(n, beat + 1)))
                self.assertGreaterEqual(min(worths(debts)), Fraction(*least(n)))
                self.assertEqual(greatest(n, debts, 1)[0], debts[worths(debts).index(max(worths(debts)))])

    def test_the_steps_of_debts(self):
        for n, _, house, behind in self.houses(5, 12):
            ahead = ((0, 1),) * n
            for shares, person, debts in zip(house.row(), house.deals(), behind):
                self.assertEqual(step(n, ahead, shares), (person, debts))
                for word, lot in reasons(n, ahead, shares):
                    self.assertEqual(word == "in", person in lot)
                    total = sum(worths(debts)[p] for p in lot)
                    had = sum(worths(ahead)[p] for p in lot)
                    if word == "in":
                        self.assertLessEqual(total, had)
                    else:
                        many = len(lot)
                        self.assertLessEqual(total, Fraction(many, many + 1) * (1 + had + worths(ahead)[person]))
                ahead = debts

    def test_plans_agree(self):
        for n, chance, house, _ in self.houses(6, 9):
            needs = some_needs(n, chance)
            for beats in (1, 20):
                row = house.foreseen(needs, beats)
                lots = house.plan_ahead(needs, beats)
                self.assertIs(is_plan(n, 1, row, lots), True)
                self.assertIsNone(astray(n, 1, row, lots))
                self.assertEqual(planned(n, 1, row, lambda *given: lots), ("kept", lots))
                self.assertEqual(planned(n, 1, row, plan), ("kept", plan(n, 1, row)))
                self.assertIs(is_plan_with(n, row, ((),) * beats, lots), True)
                self.assertIsNone(bar(n, row, ((),) * beats))
                other = tuple((chance.randrange(n),) for _ in range(beats))
                place = astray(n, 1, row, other)
                told = ("kept", other) if place is None else ("astray",) + place
                self.assertEqual(planned(n, 1, row, lambda *given: other), told)

    def test_texts_and_back(self):
        for n, chance, house, _ in self.houses(7):
            self.assertEqual(read_row(row_text(n, 1, house.row())), (n, 1, house.row()))
            lots = plan(n, 1, house.row())
            self.assertEqual(read_lots(lots_text(lots)), lots)
            self.assertEqual(read_lots(lots_text((house.here(),))), (house.here(),))

    def test_settling_brings_all_debts_to_nought(self):
        for n, _, house, _ in self.houses(8):
            left = worths(house.debts())
            for payer, receiver, paid in house.settle():
                left[payer] += Fraction(*paid)
                left[receiver] -= Fraction(*paid)
            self.assertEqual(left, [0] * n)
            self.assertLess(len(house.settle()), n)


class Desks(unittest.TestCase):
    def test_a_desk_tells_what_its_house_does(self):
        chance = Random(9)
        for n in range(1, 13):
            policy = some_policy(chance)
            desk, house, teller, dealer = Desk(n, policy), House(n, policy), Teller(n, policy), Dealer(n)
            for _ in range(15):
                needs = some_needs(n, chance)
                shares = teller.shares(needs, tuple(range(n)), dealer.things())
                person = dealer.beat(shares)
                self.assertEqual(house.beat(needs), person)
                self.assertEqual(desk.tell("beat " + ",".join(map(str, needs))), str(person))
                self.assertEqual(desk.tell("debts").split(" "), [fraction_text(debt) for debt in dealer.debts()])
                if chance.random() < 0.2:
                    policy = some_policy(chance)
                    teller = teller.turned(policy)
                    house.turn(policy)
                    self.assertEqual(desk.tell("turn " + policy_text(policy)), "ok")
                self.assertEqual(desk.tell("policy"), policy_text(policy))
                self.assertTrue(read_policy(desk.tell("policy")) == policy)
            self.assertEqual(read_row(desk.tell("row")), (n, 1, house.row()))
            self.assertEqual(desk.tell("most"), fraction_text(most(n, 15)))
            self.assertEqual(desk.tell("deals"), " ".join(map(str, dealt(n, house.row()))))

    def test_a_desk_of_a_policy_that_was_read(self):
        for policy in (ALIKE, read_policy("bottom 7\nkeep a (all:a + 1)\nweight (all:a mod 3)\n")):
            text = policy_text(policy)
            lines = ["beat 0,1", "beat 1,0", "row", "turn " + text, "beat 1,1", "row", "policy"]
            self.assertEqual(tale(2, policy, lines), tale(2, read_policy(text), lines))
            self.assertEqual(tale(2, policy, lines)[-1], text)


class GreatFact(unittest.TestCase):
    def test_foes_and_dealers(self):
        for n in range(1, 13):
            for beats in (1, 2, 3, 11, 400):
                row, deals, person, debt = against(n, beats, lightest_way)
                self.assertEqual(debt, most(n, beats))
                self.assertIs(is_against(n, beats, (row, deals, person, debt)), True)
                self.assertEqual(led(n, row, lightest_way), ("kept", tuple(deals)))
                dealer = Dealer(n)
                row, deals, person, debt = against(n, beats, lambda view: dealer.beat(view[1]))
                self.assertEqual((dealt(n, row), dealer.debts()[person]), (deals, debt))
                self.assertEqual(debt, most(n, beats))
                self.assertEqual(account_of(n, row)["greatest"], debt)

    def test_games_and_foes(self):
        for n, bottom, beats in ((2, 2, 1), (2, 2, 3), (3, 6, 2), (4, 12, 1), (3, 6, 1), (2, 4, 4)):
            debts = ((0, 1),) * n
            self.assertEqual(worth(n, bottom, beats, debts), most(n, beats))
            row, deals, person, debt = against(n, beats, lightest_way)
            self.assertEqual(debt, worth(n, bottom, beats, debts))
            # The foe's first shares are among the worst, brought to the bottom of the game.
            shares = (bottom, tuple(top * bottom // row[0][0] for top in row[0][1]))
            self.assertIn(shares, worst_shares(n, bottom, beats, debts))
            self.assertIn(deals[0], good_deals(n, bottom, beats, debts, shares))

    def test_a_dealer_to_the_greatest_debt_in_games(self):
        chance = Random(10)
        for n, bottom, beats in ((2, 3, 3), (3, 2, 3), (4, 2, 2), (3, 5, 2)):
            for _ in range(20):
                debts = ((0, 1),) * n
                for beat in range(beats):
                    worst = worst_shares(n, bottom, beats - beat, debts)
                    self.assertTrue(set(worst) <= set(all_shares(n, bottom)))
                    debts = step(n, debts, chance.choice(worst))[1]
                    self.assertLessEqual(max(worths(debts)), Fraction(*most(n, beat + 1)))

    def test_a_row_that_is_known_ahead_is_kept_though_no_dealer_could(self):
        for n in range(4, 13):
            row, deals, person, debt = against(n, 400, lightest_way)
            self.assertGreater(Fraction(*debt), 1)
            self.assertIsNotNone(astray(n, 1, row, tuple((deal,) for deal in deals)))
            self.assertIsNone(astray(n, 1, row, plan(n, 1, row)))


class Unchanged(unittest.TestCase):
    def test_lists_and_dicts_are_new_each_time(self):
        row = ((3, (1, 1, 1)), (2, (0, 1, 1)))
        debts, policy = ((0, 1),) * 3, read_policy("bottom 6\nkeep a 1\nown b 2\nweight 1\n")
        teller, house = Teller(3, policy), House(3, policy)
        teller.shares((0, 0, 0), (0, 1, 2), (0, 0, 0))
        house.beat((0, 0, 0))
        for call, given in (
            (got_by, (3, 1, row)), (dealt, (3, row)), (debts_behind, (3, row, [0, 1])), (reasons, (3, debts, row[0])),
            (worst_shares, (3, 3, 1, debts)), (windows, (3, 1, row, 1)), (tale, (3, policy, ["here", "a"])),
            (house.deals, ()), (house.settle, ()), (teller.kept, ()), (teller.owned, (1,)), (account_of, (3, row)),
        ):
            one, other = call(*given), call(*given)
            self.assertIs(type(one), dict if call in (teller.kept, teller.owned, account_of) else list)
            self.assertTrue(is_same(one, other))
            self.assertIsNot(one, other)
            ahead = snapshot(other)
            one.clear()
            self.assertTrue(is_same(other, ahead))
            self.assertTrue(is_same(call(*given), ahead))

    def test_nothing_that_is_passed_is_changed(self):
        chance = Random(11)
        row = some_row(3, 1, 4, chance)
        for thing in ([0, 1, 2, 0], [[0], [1]], {"deals": [0], "debts": [], "greatest": (0, 1)}, [], {}, [[[]]]):
            ahead = snapshot(thing)
            for call, given in (
                (is_row, (3, 1, thing)), (got, (3, 1, thing)), (Policy, (2, thing)), (policy_text, (thing,)),
                (read_policy, (thing,)), (dealt, (3, thing)), (debts_behind, (3, row, thing)), (is_calm, (3, 1, thing)),
                (against, (3, 3, lambda view: thing)), (is_against, (3, 3, thing)), (worth, (3, 2, 1, thing)),
                (is_plan, (3, 1, row, thing)), (astray, (3, 1, row, thing)), (plan_with, (3, row, thing)),
                (is_plan_with, (3, row, ((),) * 4, thing)), (is_bar, (3, row, ((),) * 4, thing)), (House, (2, thing)),
                (House(3, ALIKE).beat, (thing,)), (led, (3, row, lambda view: thing)), (bar, (3, row, thing)),
                (planned, (3, 1, row, lambda *told: thing)), (is_right_account, (3, row, thing)), (read_row, (thing,)),
                (fraction_text, (thing,)), (lots_text, (thing,)), (read_lots, (thing,)), (tale, (2, ALIKE, thing)),
                (Desk(2, ALIKE).tell, (thing,)), (least_refused, (3, row, thing)), (windows, (3, 1, row, thing)),
            ):
                told_by(call, *given)
                self.assertTrue(is_same(thing, ahead))

    def test_what_was_told_may_be_passed_on(self):
        """Numbers grow far beyond 60 digits by many bottoms, and all goes on with them."""
        row = tuple((bottom, (bottom - bottom // 3, bottom // 3, 0)) for bottom in range(1, 361))
        debts = debts_behind(3, row, dealt(3, row))[-1]
        self.assertGreater(debts[0][1], 10 ** 100)
        self.assertIs(is_calm(3, 360, debts), True)
        longer = row + ((3, (1, 1, 1)),)
        self.assertEqual(step(3, debts, longer[-1])[1], debts_behind(3, longer, dealt(3, longer))[-1])
        self.assertEqual(worth(3, 1, 0, debts), greatest(3, debts, 1)[0])
        self.assertIsNone(told_by(worst_shares, 3, 2, 2, debts))
        self.assertEqual(Fraction(fraction_text(debts[0])), Fraction(*debts[0]))
        self.assertIs(is_right_account(3, row, account_of(3, row)), True)
        self.assertIs(is_plan(3, 1, row, plan(3, 1, row)), True)


if __name__ == "__main__":
    unittest.main()
