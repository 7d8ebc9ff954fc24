"""Points 7.1 and 7.2: plans when some people may not get the thing in some beats, and bars."""

import itertools
import unittest
from random import Random

from harmonicdues import refusals as module
from harmonicdues.ahead import is_plan, plan, windows
from harmonicdues.errors import NoPeople, NoRefusals, NoRow, TooMany
from harmonicdues.refusals import bar, is_bar, is_plan_with, least_refused, plan_with
from tests.things import (
    all_kinds, is_same, no_people, no_rows, otherwise, snapshot, some_row, some_shares, told_by,
)

HALVES = (2, (1, 1))
TWO = (HALVES, HALVES)
REFUSED = ((0,), (0,))
NAMES = ("plan_with", "is_plan_with", "bar", "is_bar", "least_refused")


def everyone(n):
    return tuple(range(n))


def some_refusals(n, beats, rate, chance):
    return tuple(tuple(person for person in range(n) if chance.random() < rate) for _ in range(beats))


def refusals_of_all_kinds(n, beats, chance):
    """No refusals, thin and thick ones, of all in a beat, of one person in all beats."""
    yield ((),) * beats
    for rate in (0.1, 0.25, 0.4, 0.6, 0.9):
        yield some_refusals(n, beats, rate, chance)
    at = chance.randrange(beats)
    yield ((),) * at + (everyone(n),) + ((),) * (beats - at - 1)
    yield ((chance.randrange(n),),) * beats


def rows(n, beats, chance):
    yield some_row(n, 1, beats, chance)
    yield (some_shares(n, 1, chance.choice((2, 3, 5)), chance),) * beats
    yield ((n, (1,) * n),) * beats
    # One has to get a thing, all others need not, but may.
    first = (n + 1, (2,) + (1,) * (n - 1))
    yield ((first,) * ((n + 2) // 2) + ((n, (1,) * n),) * beats)[:beats]


def keeping(n, row):
    """The list of all plans that keep a row."""
    lots = [(person,) for person in range(n)]
    return [told for told in itertools.product(lots, repeat=len(row)) if is_plan(n, 1, row, told)]


def is_without(refusals, lots):
    return all(lot[0] not in refused for lot, refused in zip(lots, refusals))


def beats_let(n, row, refusals):
    """From each thing to the pair of the beats in which it may be dealt and whether its window has a last beat."""
    let = {}
    for person in range(n):
        for at, (first, last) in enumerate(windows(n, 1, row, person)):
            end = len(row) - 1 if last is None else last
            beats = {beat for beat in range(first, end + 1) if person not in refusals[beat]}
            let[(person, at + 1)] = (beats, last is not None)
    return let


def reckoned_bar(n, row, refusals, thing):
    """Whether a thing is a bar, reckoned with sets."""
    if type(thing) is not tuple or len(thing) != 2 or type(thing[1]) is not tuple:
        return False
    let, lot = beats_let(n, row, refusals), thing[1]
    if is_same(thing[0], "things"):
        pairs = [pair for pair in let if let[pair][1]]
        if not all(any(is_same(item, pair) for pair in pairs) for item in lot) or list(lot) != sorted(set(lot)):
            return False
        return len(set().union(*(let[pair][0] for pair in lot))) < len(lot)
    if not is_same(thing[0], "beats"):
        return False
    if not all(any(is_same(item, beat) for beat in range(len(row))) for item in lot) or list(lot) != sorted(set(lot)):
        return False
    return sum(not let[pair][0].isdisjoint(lot) for pair in let) < len(lot)


def left_aside(refusals, lot):
    return tuple(() if beat in lot else refused for beat, refused in enumerate(refusals))


def reckoned_least(row, refusals, plans):
    beats = [beat for beat, refused in enumerate(refusals) if refused]
    for many in range(len(beats) + 1):
        for lot in itertools.combinations(beats, many):
            if any(is_without(left_aside(refusals, lot), lots) for lots in plans):
                return (many, lot)


def no_refusals():
    """Things of all kinds that are no refusals for two people in two beats."""
    return [thing for thing in all_kinds() if not is_same(thing, ((), ()))] + [
        [(), ()], [[], []], ([], ()), ((), []), ((),), ((), (), ()), ((2,), ()), ((), (0, 2)), ((1, 0), ()),
        ((0, 0), ()), ((), (0, 1, 1)), ((-1,), ()), ((False,), ()), ((), (0, True)), ((), (None,)), ("", ""),
        ((), None), (0, 1), ((0,), 1), ((), ("0",)), ({}, {}), {0: (), 1: ()}, ((), range(0)), (((),), ()), ((12,), ()),
        ((), ((0,),)),
    ]


class Interface(unittest.TestCase):
    def test_functions_stand_in_their_module(self):
        for name in NAMES:
            self.assertEqual(getattr(module, name).__module__, "harmonicdues.refusals")


class Refused(unittest.TestCase):
    def refused(self, told, n, row, refusals):
        for call in (plan_with, bar, least_refused):
            self.assertEqual(told_by(call, n, row, refusals), told)
        for thing in (None, (), ((0,), (1,)), ("beats", (0, 1))):
            self.assertEqual(told_by(is_plan_with, n, row, refusals, thing), told)
            self.assertEqual(told_by(is_bar, n, row, refusals, thing), told)

    def test_no_people(self):
        for n in no_people():
            self.refused((NoPeople,), n, (), ())
            self.refused((NoPeople,), n, None, None)

    def test_no_row(self):
        for row, at in no_rows():
            self.refused((NoRow, at), 2, row, ())
            self.refused((NoRow, at), 2, row, None)
        self.refused((NoRow, 1), 2, (HALVES, (1, (1, 1))), REFUSED)
        self.refused((NoRow, -1), 2, (HALVES,) * 401, (everyone(2),) * 401)

    def test_no_refusals(self):
        for refusals in no_refusals():
            self.refused((NoRefusals,), 2, TWO, refusals)
        for refusals in [((),), ((0,),), [], [()], (None,), None, {}, "", 0, ((), ())]:
            self.refused((NoRefusals,), 2, (), refusals)

    def test_no_refusals_comes_ahead_of_too_many(self):
        row = (HALVES,) * 12
        for refusals in (((0,),) * 11, ((0,),) * 11 + (None,), [(0,)] * 12, ((0,),) * 11 + ((2,),)):
            self.assertEqual(told_by(least_refused, 2, row, refusals), (NoRefusals,))

    def test_one_to_twelve_people(self):
        for n in range(1, 13):
            row = ((n, (1,) * n),)
            self.refused(None, n, row, ((),))
            self.refused(None, n, row, (everyone(n),))
            self.refused((NoRefusals,), n, row, (everyone(n + 1),))


class SmallRows(unittest.TestCase):
    """All of them against a going through of all plans, and of all bars."""

    SIZES = ((1, 1), (1, 3), (2, 1), (2, 3), (2, 5), (2, 7), (3, 2), (3, 4), (3, 5), (4, 3), (4, 4), (5, 3))

    def cases(self, seed):
        chance = Random(seed)
        for n, beats in self.SIZES:
            for row in rows(n, beats, chance):
                plans = keeping(n, row)
                for refusals in refusals_of_all_kinds(n, beats, chance):
                    yield n, row, refusals, plans

    def test_a_plan_or_a_bar(self):
        seen = {"plan": 0, "things": 0, "beats": 0}
        for n, row, refusals, plans in self.cases(1):
            told, barring = plan_with(n, row, refusals), bar(n, row, refusals)
            if any(is_without(refusals, lots) for lots in plans):
                self.assertIn(told, plans)
                self.assertTrue(is_without(refusals, told))
                self.assertTrue(any(is_same(told, lots) for lots in plans))
                self.assertIs(is_plan_with(n, row, refusals, told), True)
                self.assertIsNone(barring)
                seen["plan"] += 1
            else:
                self.assertIsNone(told)
                self.assertTrue(reckoned_bar(n, row, refusals, barring))
                self.assertIs(is_bar(n, row, refusals, barring), True)
                seen[barring[0]] += 1
        self.assertGreater(min(seen.values()), 2)

    def test_all_lots(self):
        for n, row, refusals, plans in self.cases(2):
            if len(row) < 5:
                for lots in itertools.product([(person,) for person in range(n)], repeat=len(row)):
                    told = lots in plans and is_without(refusals, lots)
                    self.assertIs(is_plan_with(n, row, refusals, lots), told)

    def test_all_bars(self):
        right = 0
        for n, row, refusals, plans in self.cases(3):
            if len(row) > 4:
                continue
            barred = not any(is_without(refusals, lots) for lots in plans)
            found = 0
            pairs = sorted(beats_let(n, row, refusals))
            for word, items in (("things", pairs), ("beats", list(range(len(row))))):
                for many in range(len(items) + 1):
                    for lot in itertools.combinations(items, many):
                        told = is_bar(n, row, refusals, (word, lot))
                        self.assertIs(told, reckoned_bar(n, row, refusals, (word, lot)))
                        found += told
            self.assertIs(found > 0, barred)
            right += found
        self.assertGreater(right, 100)

    def test_the_least_number_of_beats(self):
        numbers = set()
        for n, row, refusals, plans in self.cases(4):
            told = least_refused(n, row, refusals)
            self.assertTrue(is_same(told, reckoned_least(row, refusals, plans)))
            self.assertIsNotNone(plan_with(n, row, left_aside(refusals, told[1])))
            numbers.add(told[0])
        self.assertGreaterEqual(numbers, {0, 1, 2, 3})


class Examples(unittest.TestCase):
    def test_the_example_of_the_document(self):
        told = (
            plan_with(2, TWO, REFUSED), is_bar(2, TWO, REFUSED, ("things", ((0, 1),))),
            is_bar(2, TWO, REFUSED, ("beats", (0, 1))), least_refused(2, TWO, REFUSED),
        )
        self.assertTrue(is_same(told, (None, True, True, (1, (0,)))))

    def test_no_beat(self):
        for n in range(1, 13):
            told = (plan_with(n, (), ()), bar(n, (), ()), least_refused(n, (), ()))
            self.assertTrue(is_same(told, ((), None, (0, ()))))
            self.assertIs(is_plan_with(n, (), (), ()), True)
            for thing in (((),), ((0,),), [], None):
                self.assertIs(is_plan_with(n, (), (), thing), False)
            for thing in (("things", ()), ("beats", ()), ("things", ((0, 1),)), ("beats", (0,))):
                self.assertIs(is_bar(n, (), (), thing), False)

    def test_one_person(self):
        row = ((1, (1,)),) * 3
        self.assertEqual(plan_with(1, row, ((),) * 3), ((0,),) * 3)
        self.assertIsNone(plan_with(1, row, ((), (0,), ())))
        self.assertTrue(is_bar(1, row, ((), (0,), ()), ("things", ((0, 2),))))
        self.assertTrue(is_bar(1, row, ((), (0,), ()), ("beats", (1,))))
        self.assertEqual(least_refused(1, row, ((0,), (), (0,))), (2, (0, 2)))

    def test_no_refusals_at_all(self):
        chance = Random(5)
        for n in range(1, 13):
            for row in rows(n, 9, chance):
                free = ((),) * 9
                self.assertIs(is_plan_with(n, row, free, plan_with(n, row, free)), True)
                self.assertIsNone(bar(n, row, free))
                self.assertEqual(least_refused(n, row, free), (0, ()))
                self.assertIs(is_plan_with(n, row, free, plan(n, 1, row)), True)

    def test_all_in_a_beat(self):
        for n in range(1, 13):
            row = ((n, (1,) * n),) * 4
            for at in range(4):
                refusals = ((),) * at + (everyone(n),) + ((),) * (3 - at)
                self.assertIsNone(plan_with(n, row, refusals))
                self.assertTrue(is_bar(n, row, refusals, ("beats", (at,))))
                self.assertTrue(is_bar(n, row, refusals, bar(n, row, refusals)))
                self.assertEqual(least_refused(n, row, refusals), (1, (at,)))

    def test_a_thing_without_a_last_beat_fills_a_beat_but_need_not(self):
        row = ((3, (1, 1, 1)),)
        for refusals, lots in ((((0, 1),), ((2,),)), (((1, 2),), ((0,),)), (((0, 2),), ((1,),))):
            self.assertEqual(plan_with(3, row, refusals), lots)
        self.assertEqual(bar(3, row, ((0, 1, 2),)), ("beats", (0,)))
        for thing in (("things", ((0, 1),)), ("things", ((0, 1), (1, 1))), ("things", ())):
            self.assertIs(is_bar(3, row, ((0, 1, 2),), thing), False)

    def test_a_bar_of_several_things_and_none_of_beats(self):
        # Persons 0 and 1 have to get a thing and can in the last beat alone; 2 and 3 fill the beats ahead.
        row, refusals = ((10, (4, 4, 1, 1)),) * 3, ((0, 1), (0, 1), ())
        told = bar(4, row, refusals)
        self.assertTrue(reckoned_bar(4, row, refusals, told))
        self.assertTrue(is_same(told, ("things", ((0, 1), (1, 1)))))
        self.assertIsNone(plan_with(4, row, refusals))
        self.assertEqual(least_refused(4, row, refusals), (1, (0,)))
        for many in range(4):
            for lot in itertools.combinations(range(3), many):
                self.assertIs(is_bar(4, row, refusals, ("beats", lot)), False)

    def test_things_give_way_to_one_another(self):
        # Person 0 can get its thing in the last of four beats alone, person 1 then in the one ahead, and so on.
        row = ((4, (1, 1, 1, 1)),) * 4
        refusals = ((0, 1, 2), (0, 1), (0, 3), ())
        self.assertEqual(plan_with(4, row, refusals), ((3,), (2,), (1,), (0,)))
        refusals = ((0, 1), (0, 1), (0, 2, 3), (2, 3))
        self.assertIn(plan_with(4, row, refusals), (((2,), (3,), (1,), (0,)), ((3,), (2,), (1,), (0,))))


class Long(unittest.TestCase):
    def check(self, n, row, refusals):
        told, barring = plan_with(n, row, refusals), bar(n, row, refusals)
        self.assertIs(told is None, barring is not None)
        if told is None:
            self.assertTrue(is_bar(n, row, refusals, barring))
            self.assertTrue(reckoned_bar(n, row, refusals, barring))
        else:
            self.assertTrue(is_plan_with(n, row, refusals, told))
            self.assertTrue(is_plan(n, 1, row, told))
            self.assertTrue(is_without(refusals, told))
        return told is not None

    def test_twelve_people_and_four_hundred_beats(self):
        chance = Random(6)
        for bottom in (12, 360):
            row = tuple(some_shares(12, 1, chance.randint(1, bottom), chance) for _ in range(400))
            self.assertTrue(self.check(12, row, ((),) * 400))
            for rate in (0.1, 0.5, 0.8, 0.9):
                self.check(12, row, some_refusals(12, 400, rate, chance))
            self.assertFalse(self.check(12, row, ((4,),) * 400))
            self.assertFalse(self.check(12, row, ((),) * 399 + (everyone(12),)))
            # Nobody is refused where a plan deals to it.
            lots = plan(12, 1, row)
            refusals = tuple(tuple(p for p in range(12) if p not in lot) for lot in lots)
            self.assertEqual(plan_with(12, row, refusals), lots)
            self.assertIsNone(bar(12, row, refusals))

    def test_plans_that_are_hidden(self):
        chance = Random(7)
        told = [0, 0]
        for _ in range(120):
            n, beats = chance.randint(2, 12), chance.randint(1, 40)
            row = tuple(some_shares(n, 1, chance.randint(1, 12), chance) for _ in range(beats))
            lots = plan(n, 1, row)
            rate = chance.choice((0.3, 0.6, 0.9))
            hidden = tuple(
                tuple(p for p in range(n) if p not in lot and chance.random() < rate) for lot in lots
            )
            self.assertTrue(self.check(n, row, hidden))
            told[self.check(n, row, some_refusals(n, beats, rate / 2, chance))] += 1
        self.assertGreater(min(told), 10)

    def test_equal_calls_give_equal_answers(self):
        chance = Random(8)
        for _ in range(30):
            row, refusals = some_row(4, 1, 10, chance), some_refusals(4, 10, 0.3, chance)
            for call in (plan_with, bar):
                self.assertTrue(is_same(call(4, row, refusals), call(4, row, refusals)))


class IsPlanWith(unittest.TestCase):
    def test_one_thing_otherwise(self):
        chance = Random(9)
        row, refusals = ((3, (1, 1, 1)),) * 4, ((1,), (), (0, 2), ())
        plans = [lots for lots in keeping(3, row) if is_without(refusals, lots)]
        self.assertGreater(len(plans), 0)
        for lots in plans:
            for thing in otherwise(lots):
                right = any(is_same(thing, other) for other in plans)
                self.assertIs(is_plan_with(3, row, refusals, thing), right)
        for thing in all_kinds():
            self.assertIs(is_plan_with(3, row, refusals, thing), False)
            right = any(is_same(plans[0][:3] + (thing,), other) for other in plans)
            self.assertIs(is_plan_with(3, row, refusals, plans[0][:3] + (thing,)), right)
        self.assertIs(is_plan_with(3, row, refusals, chance.choice(plans)), True)

    def test_a_plan_in_which_somebody_is_refused(self):
        self.assertIs(is_plan_with(2, TWO, ((), ()), ((0,), (1,))), True)
        for refusals in (((0,), ()), ((), (1,)), ((0,), (0,)), ((0, 1), ())):
            self.assertIs(is_plan_with(2, TWO, refusals, ((0,), (1,))), False)
        for refusals in (((1,), ()), ((), (0,)), ((1,), (0,))):
            self.assertIs(is_plan_with(2, TWO, refusals, ((0,), (1,))), True)

    def test_two_in_a_beat(self):
        for thing in (((0, 1), ()), ((0,), (0, 1)), ((), ()), ((0,), ())):
            self.assertIs(is_plan_with(2, TWO, ((), ()), thing), False)


class IsBar(unittest.TestCase):
    ROW = ((3, (1, 1, 1)),) * 5
    THICK = ((0, 1), (0, 1), (0, 1), (2,), ())

    def test_one_thing_otherwise(self):
        for n, row, refusals, bars in (
            (3, self.ROW, self.THICK, [("things", ((0, 1), (1, 1))), ("beats", (0, 1, 2))]),
            (2, TWO, REFUSED, [("things", ((0, 1),)), ("beats", (0, 1))]),
        ):
            for thing in bars:
                self.assertIs(is_bar(n, row, refusals, thing), True)
                for other in otherwise(thing):
                    self.assertIs(is_bar(n, row, refusals, other), reckoned_bar(n, row, refusals, other))

    def test_more_than_is_needed(self):
        for thing, told in (
            (("things", ((0, 1),)), True), (("things", ((1, 1),)), True), (("things", ((2, 1),)), False),
            (("things", ((0, 1), (1, 1))), True), (("things", ((0, 1), (1, 1), (2, 1))), False),
            (("beats", (0,)), False), (("beats", (0, 1)), True), (("beats", (0, 1, 2)), True),
            (("beats", (0, 1, 2, 3)), True), (("beats", (0, 1, 2, 3, 4)), True), (("beats", (3,)), False),
            (("beats", (3, 4)), False), (("beats", (0, 3)), False), (("beats", (0, 1, 3)), False),
        ):
            self.assertIs(reckoned_bar(3, self.ROW, self.THICK, thing), told)
            self.assertIs(is_bar(3, self.ROW, self.THICK, thing), told)

    def test_things_that_are_none(self):
        # Behind five beats each one's second thing has no last beat, and its third one no window.
        row = ((3, (1, 1, 1)),) * 5
        refusals = (everyone(3),) * 5
        right = ("things", ((0, 1), (1, 1), (2, 1)))
        self.assertIs(is_bar(3, row, refusals, right), True)
        for pair in ((0, 2), (2, 2), (0, 3), (0, 0), (0, -1), (3, 1), (-1, 1), (12, 1), (0, 9)):
            self.assertIs(is_bar(3, row, refusals, ("things", tuple(sorted([(0, 1), pair])))), False)
            self.assertIs(is_bar(3, row, refusals, ("things", (pair,))), False)
        for pair in ((False, 1), (0, True), [0, 1], (0,), (0, 1, 1), (), 0, None, "01", (0, "1"), ((0, 1),), (None, 1)):
            self.assertIs(is_bar(3, row, refusals, ("things", (pair,))), False)
            self.assertIs(is_bar(3, row, refusals, ("things", ((0, 1), pair))), False)

    def test_order_and_doubles(self):
        row, refusals = ((3, (1, 1, 1)),) * 5, (everyone(3),) * 5
        for lot in (((1, 1), (0, 1)), ((0, 1), (0, 1)), ((0, 1), (2, 1), (1, 1)), ((2, 1), (1, 1), (0, 1))):
            self.assertIs(is_bar(3, row, refusals, ("things", lot)), False)
            self.assertIs(is_bar(3, row, refusals, ("things", tuple(sorted(set(lot))))), True)
        for lot in ((1, 0), (0, 0), (0, 2, 1), (4, 4), (0, 0, 1)):
            self.assertIs(is_bar(3, row, refusals, ("beats", lot)), False)
            self.assertIs(is_bar(3, row, refusals, ("beats", tuple(sorted(set(lot))))), True)
        for lot in ((0, 1, 2, 3, 4), (0,), (4,)):
            self.assertIs(is_bar(3, row, refusals, ("beats", lot)), True)
            self.assertIs(is_bar(3, row, refusals, ("beats", list(lot))), False)
        for lot in ((5,), (0, 5), (-1,), (False,), (0, True), (None,), ("0",), ((0,),), 0, None, "0", {0: 0}, range(1)):
            self.assertIs(is_bar(3, row, refusals, ("beats", lot)), False)

    def test_other_things_of_one_person_in_order(self):
        row, refusals = ((1, (1, 0)),) * 3, ((0,), (), (0,))
        for lot, told in (
            (((0, 1), (0, 3)), True), (((0, 3), (0, 1)), False), (((0, 1), (0, 2), (0, 3)), True),
            (((0, 2), (0, 3)), True), (((0, 2),), False), (((0, 3), (0, 2)), False), (((0, 1), (0, 1)), False),
        ):
            self.assertIs(is_bar(2, row, refusals, ("things", lot)), told)

    def test_other_words(self):
        for word in (
            "thing", "beat", "", "Things", "BEATS", "lots", b"things", b"beats", 0, None, True, ("beats",), ["beats"],
        ):
            for lot in ((0, 1), ((0, 1),), ()):
                self.assertIs(is_bar(2, TWO, REFUSED, (word, lot)), False)
        for thing in (
            ["things", ((0, 1),)], ["beats", (0, 1)], ("beats", (0, 1), ()), ("beats",), ("things",), "beats",
            ("beats", "beats"), ("things", (0, 1)), ("beats", ((0, 1),)), ("things", [(0, 1)]), ("things", ([0, 1],)),
            {"beats": (0, 1)}, ((0, 1), "beats"), ("be", "at"),
        ):
            self.assertIs(is_bar(2, TWO, REFUSED, thing), False)

    def test_nothing_is_no_bar(self):
        for refusals in (REFUSED, ((), ()), (everyone(2),) * 2):
            self.assertIs(is_bar(2, TWO, refusals, ("things", ())), False)
            self.assertIs(is_bar(2, TWO, refusals, ("beats", ())), False)

    def test_things_of_all_kinds(self):
        for thing in all_kinds():
            self.assertIs(is_bar(2, TWO, REFUSED, thing), False)
            for told in (("things", thing), ("beats", thing), (thing, ((0, 1),)), (thing, (0, 1))):
                self.assertIs(is_bar(2, TWO, REFUSED, told), False)
            for lot in ((thing,), ((0, thing),), ((thing, 1),)):
                told = reckoned_bar(2, TWO, REFUSED, ("things", lot))
                self.assertIs(is_bar(2, TWO, REFUSED, ("things", lot)), told)
            self.assertIs(is_bar(2, TWO, REFUSED, ("beats", (0, thing))), is_same(thing, 1))

    def test_nothing_is_changed(self):
        for thing in (["things", [[0, 1]]], ("beats", [0, 1]), ("things", ([0, 1],)), {"beats": [0]}):
            ahead = snapshot(thing)
            is_bar(2, TWO, REFUSED, thing)
            is_plan_with(2, TWO, REFUSED, thing)
            for call in (plan_with, bar, least_refused):
                told_by(call, 2, TWO, thing)
                told_by(call, 2, thing, REFUSED)
            self.assertEqual(thing, ahead)


class LeastRefused(unittest.TestCase):
    def test_ten_beats_and_eleven(self):
        row = ((2, (1, 1)),) * 24
        for many in range(13):
            for place in (lambda at: at, lambda at: at + 5, lambda at: 23 - at, lambda at: 2 * at if at < 12 else 1):
                beats = {place(at) for at in range(many)}
                refusals = tuple((0, 1) if beat in beats else () for beat in range(24))
                if many > 10:
                    self.assertEqual(told_by(least_refused, 2, row, refusals), (TooMany, 10))
                else:
                    self.assertTrue(is_same(least_refused(2, row, refusals), (many, tuple(sorted(beats)))))

    def test_too_many_though_there_is_a_plan(self):
        row = ((2, (1, 1)),) * 11
        lots = plan(2, 1, row)
        refusals = tuple((1 - lot[0],) for lot in lots)
        self.assertEqual(plan_with(2, row, refusals), lots)
        self.assertEqual(told_by(least_refused, 2, row, refusals), (TooMany, 10))
        self.assertEqual(least_refused(2, row, refusals[:10] + ((),)), (0, ()))

    def test_the_first_lot(self):
        row = ((2, (1, 1)),) * 6
        self.assertEqual(least_refused(2, row, ((0,),) * 6), (3, (0, 2, 4)))
        self.assertEqual(least_refused(2, row, ((1,),) * 6), (3, (0, 2, 4)))
        self.assertEqual(least_refused(2, row, ((), (0,), (0,), (0,), (), ())), (1, (2,)))
        self.assertEqual(least_refused(2, row, ((0,), (0,), (1,), (1,), (0,), (0,))), (3, (0, 2, 4)))
        self.assertEqual(least_refused(3, ((3, (1, 1, 1)),) * 3, ((0, 1, 2),) * 3), (3, (0, 1, 2)))
        self.assertEqual(least_refused(3, ((3, (1, 1, 1)),) * 3, ((0,), (0,), (0, 1))), (1, (0,)))
        self.assertEqual(least_refused(3, ((3, (1, 1, 1)),) * 3, ((0, 1), (0, 1), (0, 1))), (2, (0, 1)))

    def test_a_lot_behind_the_first_beats(self):
        row = ((2, (1, 1)), (2, (1, 1)), (1, (1, 0)), (1, (0, 1)))
        self.assertEqual(least_refused(2, row, ((0,), (), (0,), ())), (1, (2,)))
        self.assertEqual(least_refused(2, row, ((0,), (0,), (0,), (1,))), (3, (0, 2, 3)))
        self.assertEqual(least_refused(2, row, ((0,), (1,), (0,), (0, 1))), (2, (2, 3)))

    def test_twelve_people(self):
        chance = Random(10)
        row = tuple(some_shares(12, 1, 12, chance) for _ in range(60))
        refusals = tuple(everyone(12) if beat in (7, 30, 59) else () for beat in range(60))
        self.assertEqual(least_refused(12, row, refusals), (3, (7, 30, 59)))


if __name__ == "__main__":
    unittest.main()
