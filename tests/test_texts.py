"""Point 10.1: fractions, rows and lots as texts."""

import unittest
from fractions import Fraction
from random import Random

from harmonicdues import texts as module
from harmonicdues.ahead import plan
from harmonicdues.dealing import Dealer
from harmonicdues.errors import BadText, NoFraction, NoLots, NoPeople, NoRow, NoThings
from harmonicdues.greatest import greatest
from harmonicdues.texts import fraction_text, lots_text, read_lots, read_row, row_text
from tests.things import (
    all_kinds, is_same, no_integers, no_people, no_rows, snapshot, some_row, told_by,
)

HALVES = (2, (1, 1))
NAMES = ("fraction_text", "row_text", "lots_text", "read_row", "read_lots")
SIGNS = [chr(code) for code in range(32, 127)]
FIGURES = "0123456789"
MANY = 20000

# Words that are no numbers of at most nine figures without needless zeros.
NO_NUMBERS = (
    "", " ", "-1", "-0", "+1", "--1", "00", "01", "007", "0000000001", "1.0", "1/2", "1e2", "0x1", "1_0", "a", "one",
    "1a", "a1", "1000000000", "9999999999", "1" * 10, "1" * 5000, "0" * 5000, "-" + "1" * 5000, "(1)", "1;", "1:", ".",
    "None", "True", "1,", ",1", "1,,1", ",",
)


def no_lots():
    """Things of all kinds that are no lots."""
    wrong = [thing for thing in all_kinds() if not are_lots(thing)]
    return wrong + [
        [()], [(0,)], ((0,), [1]), (0,), (0, 1), ((1, 0),), ((0, 0),), ((), (3, 3)), ((12,),), ((0, 12),), ((-1,),),
        ((-1, 0),), ((False,),), ((0, True),), ((None,),), (("0",),), (((0,),),), ((), None), ("",), ("0",), (b"",),
        ({},), ({0: 0},), (range(2),), ((),) * 401, ((0,),) * 401, ((0, 1, 2),) * 400 + (None,), ((10 ** 59,),),
    ]


def is_lot(thing):
    if type(thing) is not tuple or not all(type(number) is int and 0 <= number < 12 for number in thing):
        return False
    return list(thing) == sorted(set(thing))


def are_lots(thing):
    """Whether a thing is lots, told in another way."""
    return type(thing) is tuple and len(thing) <= 400 and all(map(is_lot, thing))


def some_lots(chance, beats):
    return tuple(tuple(p for p in range(12) if chance.random() < chance.random()) for _ in range(beats))


def written_row(n, m, row):
    text = "row " + str(n) + " " + str(m) + "\n"
    for bottom, tops in row:
        text += "shares " + str(bottom) + " " + ",".join(map(str, tops)) + "\n"
    return text


def written_lots(lots):
    return "".join((",".join(map(str, lot)) or "-") + "\n" for lot in lots)


class Interface(unittest.TestCase):
    def test_functions_stand_in_their_module(self):
        for name in NAMES:
            self.assertEqual(getattr(module, name).__module__, "harmonicdues.texts")

    def test_the_example_of_the_document(self):
        told = (fraction_text((-2, 3)), row_text(2, 1, ((3, (1, 2)),)), read_lots("0,1\n-\n"))
        self.assertTrue(is_same(told, ("-2/3", "row 2 1\nshares 3 1,2\n", ((0, 1), ()))))


class Fractions(unittest.TestCase):
    def test_whole_numbers(self):
        for k in (0, 1, -1, 7, -12, 400, 10 ** 59, -(10 ** 59)):
            self.assertTrue(is_same(fraction_text((k, 1)), str(k)))

    def test_fractions(self):
        for top, bottom in ((1, 2), (-1, 2), (5, 6), (-5, 6), (58301, 27720), (-359, 360), (1, 10 ** 59), (7, 3)):
            self.assertTrue(is_same(fraction_text((top, bottom)), str(Fraction(top, bottom))))
            self.assertEqual(fraction_text((top, bottom)), f"{top}/{bottom}")

    def test_many_figures(self):
        for figures in (59, 60, 61, 119, 120, 121, 180, 600, 4000):
            for top in (
                10 ** figures, 10 ** figures - 1, 10 ** figures + 1, 10 ** figures + 10 ** 60, -(10 ** figures),
            ):
                self.assertEqual(fraction_text((top, 1)), str(top))
                self.assertEqual(fraction_text((1, abs(top))), f"1/{abs(top)}")

    def test_more_figures_than_python_writes_at_once(self):
        zeros = "0" * 9999
        self.assertEqual(fraction_text((10 ** 9999, 1)), "1" + zeros)
        self.assertEqual(fraction_text((-(10 ** 9999), 10 ** 9999 + 1)), f"-1{zeros}/1{zeros[1:]}1")

    def test_debts_and_sums_that_were_told(self):
        dealer = Dealer(3)
        for bottom in range(1, 361):
            dealer.beat((bottom, (bottom - bottom // 2, 0, bottom // 2)))
        for debt in dealer.debts() + (greatest(3, dealer.debts(), 2)[0],):
            self.assertEqual(fraction_text(debt), str(Fraction(*debt)))

    def test_no_fraction(self):
        wrong = [thing for thing in all_kinds() if not is_same(thing, (1, 2))]
        for thing in wrong + [
            (2, 4), (0, 2), (0, 0), (1, 0), (-1, -2), (1, -2), (0, -1), [1, 2], (1,), (1, 2, 3), ("1", 2), (1, "2"),
            (True, 2), (1, True), (False, 1), (0, True), (None, 1), (1, None), ((1,), 2), "1/2", "1", {1: 2}, (10, 15),
            (10 ** 59, 10 ** 58),
        ]:
            with self.subTest(thing=str(thing)[:60]):
                self.assertEqual(told_by(fraction_text, thing), (NoFraction,))

    def test_nothing_is_changed(self):
        for thing in ([1, 2], [[1], 2], {1: [2]}):
            ahead = snapshot(thing)
            self.assertEqual(told_by(fraction_text, thing), (NoFraction,))
            self.assertEqual(thing, ahead)


class Rows(unittest.TestCase):
    def both(self, n, m, row):
        text = written_row(n, m, row)
        self.assertTrue(is_same(row_text(n, m, row), text))
        self.assertTrue(is_same(read_row(text), (n, m, row)))

    def test_rows_of_all_sizes(self):
        chance = Random(1)
        for n in range(1, 13):
            for m in range(1, n + 1):
                for beats in (0, 1, 5):
                    self.both(n, m, some_row(n, m, beats, chance))

    def test_four_hundred_beats(self):
        chance = Random(2)
        self.both(2, 1, (HALVES,) * 400)
        self.both(12, 5, some_row(12, 5, 400, chance))
        self.both(3, 1, tuple((bottom, (bottom - 1, 0, 1)) for bottom in range(1, 361)))

    def test_small_texts(self):
        self.assertEqual(row_text(2, 1, ()), "row 2 1\n")
        self.assertEqual(row_text(12, 12, ()), "row 12 12\n")
        self.assertEqual(row_text(1, 1, ((360, (360,)),)), "row 1 1\nshares 360 360\n")
        self.assertEqual(row_text(3, 2, ((1, (1, 0, 1)), (4, (4, 3, 1)))), "row 3 2\nshares 1 1,0,1\nshares 4 4,3,1\n")

    def test_what_row_text_refuses(self):
        for n in no_people():
            self.assertEqual(told_by(row_text, n, 1, ()), (NoPeople,))
            self.assertEqual(told_by(row_text, n, None, None), (NoPeople,))
        for m in [0, 3, -1, 12] + no_integers():
            self.assertEqual(told_by(row_text, 2, m, ()), (NoThings,))
            self.assertEqual(told_by(row_text, 2, m, None), (NoThings,))
        for row, at in no_rows():
            self.assertEqual(told_by(row_text, 2, 1, row), (NoRow, at))
        self.assertEqual(told_by(row_text, 2, 2, (HALVES,)), (NoRow, 0))

    def test_nothing_is_changed(self):
        for row in ([HALVES], ([2, [1, 1]],), [[2, [1, 1]]]):
            ahead = snapshot(row)
            told_by(row_text, 2, 1, row)
            told_by(read_row, row)
            told_by(read_lots, row)
            told_by(lots_text, row)
            self.assertEqual(row, ahead)


class ReadRow(unittest.TestCase):
    def wrong(self, text, line):
        with self.subTest(text=str(text)[:60]):
            told = told_by(read_row, text)
            self.assertEqual(told, (BadText, line))
            self.assertIs(type(told[1]), int)

    def test_no_string(self):
        for thing in all_kinds() + [b"row 2 1\n", ["row 2 1\n"], ("row 2 1\n",), (2, 1, ())]:
            if type(thing) is not str:
                self.wrong(thing, 0)

    def test_strings_of_all_kinds(self):
        for thing in all_kinds():
            if type(thing) is str:
                self.wrong(thing, 1)

    def test_no_line(self):
        for text in ("", "row 2 1", "row", "a", " ", "shares 2 1,1", "-"):
            self.wrong(text, 1)

    def test_wrong_first_lines(self):
        for line in (
            "", " ", "row", "row ", "row 2", "row 2 ", "row 2  1", " row 2 1", "row 2 1 ", "row  2 1", "row 2 1 1",
            "Row 2 1", "ROW 2 1", "rows 2 1", "row2 1", "row 2,1", "row,2,1", "shares 2 1,1", "2 1", "row:2 1",
            "row a b",
            "shares 2 1", "row row 2 1", "row 2\t1", "bottom 2",
        ):
            self.wrong_first(line)
        for word in NO_NUMBERS:
            self.wrong_first(f"row {word} 1")
            self.wrong_first(f"row 2 {word}")

    def wrong_first(self, line):
        for rest in ("", "shares 2 1,1\n", "shares\n", "shares 2 1,1", "row 2 1\n"):
            self.wrong(f"{line}\n{rest}", 1)

    def test_wrong_lines(self):
        for line in (
            "", " ", "shares", "shares ", "shares 2", "shares 2 ", "shares 2  1,1", " shares 2 1,1", "shares 2 1,1 ",
            "shares  2 1,1", "shares 2 1, 1", "shares 2 1 1", "shares 2 1 ,1", "Shares 2 1,1", "SHARES 2 1,1",
            "share 2 1,1", "shares2 1,1", "shares 2,1,1", "shares 2:1,1", "shares 1,1", "2 1,1", "row 2 1",
            "shares 2 ,",
            "shares 2 1,", "shares 2 ,1", "shares 2 1,,1", "shares 2 1;1", "shares 2 (1,1)", "shares 2 1,1,",
            "shares 2 -",
            "shares 1,1 2", "shares 2 1/2,1/2", "none", "shares 2\t1,1",
        ):
            self.wrong_line(line)
        for word in NO_NUMBERS:
            self.wrong_line(f"shares {word} 1,1")
            if "," not in word:
                self.wrong_line(f"shares 2 {word}")
                self.wrong_line(f"shares 2 1,{word}")
                self.wrong_line(f"shares 2 {word},1")
                self.wrong_line(f"shares 2 1,{word},0")

    def wrong_line(self, line):
        for count in (0, 1, 3):
            ahead = "row 2 1\n" + "shares 2 1,1\n" * count
            for rest in ("", "shares 2 1,1\n", "shares\n", "shares 2 1,1", "a"):
                self.wrong(f"{ahead}{line}\n{rest}", count + 2)

    def test_all_other_signs(self):
        for sign in SIGNS:
            if sign not in FIGURES:
                for text in (f"row 2{sign} 1\n", f"row {sign}2 1\n", f"row 2 1{sign}\n", f"{sign}row 2 1\n"):
                    self.wrong(text, 1)
                for text in (f"shares 2{sign} 1,1\n", f"shares 2 1,1{sign}\n", f"shares 2 {sign}1,1\n"):
                    self.wrong("row 2 1\n" + text, 2)
                if sign != ",":
                    self.wrong(f"row 2 1\nshares 2 1{sign}1\n", 2)

    def test_something_behind_the_last_line_feed(self):
        for rest in ("shares 2 1,1", " ", "a", "row 2 1", "-", "shares"):
            self.wrong("row 2 1\n" + rest, 2)
            self.wrong("row 2 1\nshares 2 1,1\n" + rest, 3)
            self.wrong("row 0 1\nshares 2 1,1\nshares 9 1\n" + rest, 4)

    def test_empty_lines(self):
        self.wrong("\n", 1)
        self.wrong("\n\n", 1)
        self.wrong("\nrow 2 1\n", 1)
        self.wrong("row 2 1\n\n", 2)
        self.wrong("row 2 1\n\nshares 2 1,1\n", 2)
        self.wrong("row 2 1\nshares 2 1,1\n\n", 3)

    def test_however_many_tops(self):
        for tops in ("2", "1,1,0", "0,1,1", ",".join("0" * 100), "1", "999999999,0", "1,2"):
            self.assertEqual(told_by(read_row, f"row 2 1\nshares 2 {tops}\n"), (NoRow, 0))
            self.assertEqual(told_by(read_row, f"row 2 1\nshares 2 1,1\nshares 2 {tops}\nshares 2 5\n"), (NoRow, 1))
            self.wrong(f"row 2 1\nshares 2 {tops}\nshares\n", 3)
        self.assertEqual(read_row("row 1 1\nshares 2 2\n"), (1, 1, ((2, (2,)),)))
        twelve = ",".join("1" * 12)
        self.assertEqual(read_row(f"row 12 1\nshares 12 {twelve}\n"), (12, 1, ((12, (1,) * 12),)))

    def test_what_the_numbers_are_is_looked_at_last(self):
        for n in ("0", "13", "100", "999999999"):
            for m in ("0", "1", "13", "999999999"):
                for rest in ("", "shares 2 1,1\n", "shares 0 5\n"):
                    self.assertEqual(told_by(read_row, f"row {n} {m}\n{rest}"), (NoPeople,))
                    self.wrong(f"row {n} {m}\n{rest}shares\n", 2 + (rest != ""))
                    self.wrong(f"row {n} {m}\n{rest}shares", 2 + (rest != ""))
        for m in ("0", "3", "13", "999999999"):
            for rest in ("", "shares 2 1,1\n", "shares 0 5\n"):
                self.assertEqual(told_by(read_row, f"row 2 {m}\n{rest}"), (NoThings,))
                self.wrong(f"row 2 {m}\n{rest}a\n", 2 + (rest != ""))

    def test_no_row(self):
        for line in (
            "0 0,0", "361 361,0", "2 1,2", "2 2,1", "2 0,1", "2 3,0", "999999999 999999999,0", "0 0", "2 1,1,0",
        ):
            self.assertEqual(told_by(read_row, f"row 2 1\nshares {line}\n"), (NoRow, 0))
            self.assertEqual(told_by(read_row, f"row 2 1\nshares 2 1,1\nshares {line}\nshares 1 5\n"), (NoRow, 1))
        self.assertEqual(told_by(read_row, "row 2 2\nshares 2 1,1\n"), (NoRow, 0))
        self.assertEqual(told_by(read_row, "row 3 1\nshares 2 1,1\n"), (NoRow, 0))

    def test_401_lines(self):
        text = "row 2 1\n" + "shares 2 1,1\n" * 401
        self.assertEqual(told_by(read_row, text), (NoRow, -1))
        self.assertEqual(told_by(read_row, "row 2 1\n" + "shares 2 1\n" * 401), (NoRow, -1))
        self.wrong(text + "shares\n", 403)
        self.wrong(text + "shares", 403)
        self.assertEqual(read_row("row 2 1\n" + "shares 2 1,1\n" * 400), (2, 1, (HALVES,) * 400))

    def test_thousands_of_signs(self):
        for text in ("row " * MANY, "row 2 1" * MANY, "1" * MANY, " " * MANY, "," * MANY, "row 2 " + "1" * MANY):
            self.wrong(text, 1)
            self.wrong(text + "\n", 1)
        for text in ("1," * MANY, "1" * MANY, "," * MANY, " " * MANY, "0" * MANY, "-" * MANY, "1,1 " * MANY):
            self.wrong(f"row 2 1\nshares 2 {text}\n", 2)
            self.wrong(f"row 2 1\nshares {text} 1,1\n", 2)
        self.assertEqual(told_by(read_row, "row 2 1\nshares 2 " + "1," * MANY + "1\n"), (NoRow, 0))
        self.assertEqual(told_by(read_row, "row 2 1\n" + "shares 2 1,1\n" * MANY), (NoRow, -1))
        self.wrong("\n" * MANY, 1)
        self.wrong("row 2 1\n" + "shares 2 1,1\n" * MANY + "\n", MANY + 2)


class Lots(unittest.TestCase):
    def both(self, lots):
        text = written_lots(lots)
        self.assertTrue(is_same(lots_text(lots), text))
        self.assertTrue(is_same(read_lots(text), lots))

    def test_lots_of_all_kinds(self):
        chance = Random(3)
        for beats in (0, 1, 2, 9, 60, 400):
            for _ in range(5):
                self.both(some_lots(chance, beats))
        for lots in (
            (), ((),), ((),) * 400, ((0,),), ((11,),), (tuple(range(12)),) * 400, ((), (0,), ()), ((9, 10, 11),),
        ):
            self.both(lots)
        for m in (1, 5, 12):
            self.both(plan(12, m, some_row(12, m, 20, chance)))

    def test_small_texts(self):
        self.assertEqual(lots_text(()), "")
        self.assertEqual(lots_text(((),)), "-\n")
        self.assertEqual(lots_text(((0, 11), (), (5,))), "0,11\n-\n5\n")
        self.assertTrue(is_same(read_lots(""), ()))
        self.assertTrue(is_same(read_lots("-\n"), ((),)))

    def test_no_lots(self):
        for thing in no_lots():
            with self.subTest(thing=str(thing)[:60]):
                self.assertEqual(told_by(lots_text, thing), (NoLots,))

    def wrong(self, text, line):
        with self.subTest(text=str(text)[:60]):
            told = told_by(read_lots, text)
            self.assertEqual(told, (BadText, line))
            self.assertIs(type(told[1]), int)

    def test_no_string(self):
        for thing in all_kinds() + [b"-\n", ["-\n"], ("-\n",), ((),)]:
            if type(thing) is not str:
                self.wrong(thing, 0)

    def test_strings_of_all_kinds(self):
        for thing in all_kinds():
            if type(thing) is str and thing != "":
                self.wrong(thing, 1)

    def test_wrong_lines(self):
        for line in NO_NUMBERS + (
            "--", "- ", " -", "-,1", "1,-", "0 1", "0, 1", " 0", "0 ", "none", "0;1", "0,1,", "\t0",
        ):
            for count in (0, 1, 3):
                for rest in ("", "-\n", "a\n", "a", "0,1\n"):
                    self.wrong("0,1\n" * count + f"{line}\n{rest}", count + 1)
            if "," not in line and line != "":
                self.wrong(f"-\n0,{line}\n", 2)
                self.wrong(f"-\n{line},0\n", 2)
                self.wrong(f"-\n0,{line},1\n", 2)

    def test_all_other_signs(self):
        for sign in SIGNS:
            if sign not in FIGURES:
                if sign != "-":
                    self.wrong(f"{sign}\n", 1)
                self.wrong(f"0{sign}\n", 1)
                self.wrong(f"{sign}0\n", 1)
                if sign != ",":
                    self.wrong(f"0{sign}1\n", 1)

    def test_something_behind_the_last_line_feed(self):
        for rest in ("-", "0", "0,1", " ", "a"):
            self.wrong(rest, 1)
            self.wrong("-\n" + rest, 2)
            self.wrong("-\n5,3\n" + rest, 3)

    def test_empty_lines(self):
        self.wrong("\n", 1)
        self.wrong("-\n\n", 2)
        self.wrong("\n-\n", 1)
        self.wrong("-\n\n-\n", 2)

    def test_what_the_numbers_are_is_looked_at_last(self):
        for line in ("12", "13", "999999999", "1,0", "0,0", "0,12", "0,1,1", "0,2,1", ",".join(map(str, range(13)))):
            self.assertEqual(told_by(read_lots, f"{line}\n"), (NoLots,))
            self.assertEqual(told_by(read_lots, f"-\n0,1\n{line}\n-\n"), (NoLots,))
            self.wrong(f"{line}\na\n", 2)
            self.wrong(f"{line}\na", 2)

    def test_401_lines(self):
        for line in ("-\n", "0,1\n", "11\n"):
            self.assertEqual(told_by(read_lots, line * 401), (NoLots,))
            self.wrong(line * 401 + "a\n", 402)
            self.wrong(line * 401 + "-", 402)
            self.assertEqual(len(read_lots(line * 400)), 400)

    def test_thousands_of_signs(self):
        for text in ("-" * MANY, "1" * MANY, "1," * MANY, "," * MANY, " " * MANY, "0" * MANY, "(" * MANY, "a" * MANY):
            self.wrong(text, 1)
            self.wrong(text + "\n", 1)
            self.wrong("-\n" + text + "\n", 2)
        self.assertEqual(told_by(read_lots, "1," * MANY + "1\n"), (NoLots,))
        self.assertEqual(told_by(read_lots, "-\n" * MANY), (NoLots,))
        self.wrong("\n" * MANY, 1)


if __name__ == "__main__":
    unittest.main()
