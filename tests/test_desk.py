"""Point 10.2: a desk, which leads a house by lines, and tales."""

import unittest
from fractions import Fraction
from random import Random

from harmonicdues import desk as module
from harmonicdues.ahead import is_plan
from harmonicdues.dealing import most
from harmonicdues.desk import Desk, tale
from harmonicdues.errors import (
    Full, HereAlready, LastOne, NoLine, NoLines, NoNeeds, NoNumber, NoPeople, NoPolicy, NotHere,
)
from harmonicdues.house import House
from harmonicdues.policies import Policy
from harmonicdues.policytexts import policy_text, read_policy
from harmonicdues.texts import read_row, row_text
from tests.test_texts import FIGURES, NO_NUMBERS, SIGNS
from tests.things import (
    all_kinds, is_same, no_people, other_things, snapshot, some_policy, told_by, tuples,
)

ONE = ("num", 1)
ALIKE = Policy(2, (("weight", ONE),))
NEEDING = Policy(6, (("weight", ("fact", "need")),))
ASKING = (
    "here", "waiting", "things", "deals", "beats", "debts", "most", "shares", "settle", "row", "policy",
)
MANY = 20000


def texts(items):
    return " ".join(map(str, items)) or "none"


def fraction(pair):
    return str(Fraction(*pair))


def shares_texts(row):
    return texts(f"{bottom}:{','.join(map(str, tops))}" for bottom, tops in row)


def needs_text(needs):
    return ",".join(map(str, needs))


def asked(desk):
    """What a desk tells to all lines that change nothing."""
    return [desk.tell(line) for line in ASKING]


def answers(house, policy):
    """What a desk has to tell to these lines, leading such a house."""
    n, beats = len(house.debts()), len(house.row())
    return [
        texts(house.here()), texts(house.waiting()), texts(house.things()), texts(house.deals()), str(beats),
        texts(map(fraction, house.debts())), fraction(most(n, beats)), shares_texts(house.row()[-1:]),
        texts(f"{payer}>{receiver}:{fraction(paid)}" for payer, receiver, paid in house.settle()),
        row_text(n, 1, house.row()), policy_text(policy),
    ]


def ready(n=3, policy=NEEDING):
    """A desk behind some deeds: person 1 is away."""
    desk = Desk(n, policy)
    for line in ("beat 1,1,1", "beat 0,1,1", "leave 1"):
        desk.tell(line)
    return desk


class DeskTest(unittest.TestCase):
    def raised(self, desk, told, line):
        """That a line raises this and changes nothing, not even what comes later."""
        ahead = asked(desk)
        with self.subTest(line=str(line)[:60]):
            self.assertEqual(told_by(desk.tell, line), told)
            self.assertTrue(is_same(asked(desk), ahead))

    def no_line(self, desk, *lines):
        for line in lines:
            self.raised(desk, (NoLine,), line)


class Interface(unittest.TestCase):
    def test_all_stand_in_their_module(self):
        self.assertEqual(Desk.__module__, "harmonicdues.desk")
        self.assertIs(module.Desk, Desk)
        self.assertEqual(tale.__module__, "harmonicdues.desk")

    def test_methods_stand_in_the_class(self):
        for name in ("__init__", "tell"):
            self.assertIn(name, vars(Desk))

    def test_equal_to_itself_alone(self):
        desk = Desk(2, ALIKE)
        self.assertTrue(desk == desk)
        for thing in [Desk(2, ALIKE), House(2, ALIKE)] + other_things() + tuples():
            self.assertFalse(desk == thing)
            self.assertTrue(desk != thing)


class New(DeskTest):
    def test_one_to_twelve_people(self):
        for n in range(1, 13):
            self.assertTrue(is_same(asked(Desk(n, ALIKE)), [
                " ".join(map(str, range(n))), " ".join("0" * n), " ".join("0" * n), "none", "0", " ".join("0" * n), "0",
                "none", "none", f"row {n} 1\n", "bottom 2\nweight 1\n",
            ]))
            self.assertEqual(tale(n, ALIKE, []), [])

    def test_no_people(self):
        for n in no_people():
            self.assertEqual(told_by(Desk, n, ALIKE), (NoPeople,))
            self.assertEqual(told_by(Desk, n, None), (NoPeople,))
            self.assertEqual(told_by(tale, n, ALIKE, []), (NoPeople,))
            self.assertEqual(told_by(tale, n, None, None), (NoPeople,))

    def test_no_policy(self):
        for thing in all_kinds() + ["bottom 2\n", (2, ()), Policy]:
            if type(thing) is not Policy:
                self.assertEqual(told_by(Desk, 2, thing), (NoPolicy,))
                self.assertEqual(told_by(tale, 2, thing, []), (NoPolicy,))
                self.assertEqual(told_by(tale, 2, thing, None), (NoPolicy,))


class Told(DeskTest):
    """Each line and what it tells."""

    def test_beats(self):
        desk = Desk(3, NEEDING)
        told = [desk.tell(line) for line in ("beat 1,1,1", "beat 0,1,1", "beat 999999999,0,0", "beat 0,0,0")]
        self.assertTrue(is_same(told, ["0", "1", "2", "0"]))
        self.assertEqual(desk.tell("row"), "row 3 1\nshares 6 2,2,2\nshares 6 0,3,3\nshares 6 6,0,0\nshares 6 2,2,2\n")
        self.assertEqual((desk.tell("beats"), desk.tell("deals")), ("4", "0 1 2 0"))

    def test_twelve_people(self):
        desk = Desk(12, Policy(360, (("weight", ("fact", "need")),)))
        self.assertEqual(desk.tell("beat " + ",".join("0" * 11) + ",7"), "11")
        self.assertEqual(desk.tell("shares"), "360:" + ",".join("0" * 11) + ",360")
        self.assertEqual(desk.tell("leave 10"), "ok")
        self.assertEqual(desk.tell("here"), "0 1 2 3 4 5 6 7 8 9 11")
        self.assertEqual(desk.tell("come 10"), "0")

    def test_shares_and_debts(self):
        desk = ready()
        self.assertEqual(desk.tell("shares"), "6:0,3,3")
        self.assertEqual(desk.tell("debts"), "-2/3 -1/6 5/6")
        self.assertEqual(desk.tell("most"), "5/6")
        self.assertEqual(desk.tell("settle"), "0>2:2/3 1>2:1/6")
        self.assertEqual(desk.tell("things"), "1 1 0")
        self.assertEqual(desk.tell("here"), "0 2")
        self.assertEqual(desk.tell("waiting"), "0 0 0")

    def test_whole_debts(self):
        self.assertEqual(tale(2, Policy(1, (("weight", ("fact", "need")),)), ["beat 0,1", "debts", "settle", "most"]), [
            "1", "0 0", "none", "1/2",
        ])
        self.assertEqual(tale(1, ALIKE, ["beat 0", "most", "debts", "shares"]), ["0", "0", "0", "2:2"])

    def test_leave_and_come(self):
        desk = Desk(3, NEEDING)
        for line, told in (
            ("beat 1,1,1", "0"), ("beat 0,1,1", "1"), ("leave 2", "ok"), ("here", "0 1"), ("beat 5,1,9", "2"),
            ("waiting", "0 0 1"), ("leave 0", "ok"), ("come 2", "1"), ("waiting", "0 0 0"), ("come 0", "0"),
            ("here", "0 1 2"), ("deals", "0 1 2"), ("beats", "3"), ("debts", "1/6 0 -1/6"), ("settle", "2>0:1/6"),
        ):
            self.assertTrue(is_same(desk.tell(line), told))

    def test_turns(self):
        desk = Desk(2, ALIKE)
        for line, told in (
            ("turn bottom 5\nweight person\n", "ok"), ("policy", "bottom 5\nweight person\n"), ("shares", "none"),
            ("beat 0,0", "1"), ("shares", "5:0,5"), ("turn bottom 3\n", "ok"), ("policy", "bottom 3\n"),
            ("shares", "5:0,5"), ("beat 0,0", "0"), ("shares", "3:2,1"),
            ("turn bottom 9\nif (person = 1) do\ncap 2\nelse\nend\nweight 1\n", "ok"),
            ("policy", "bottom 9\nif (person = 1) do\ncap 2\nend\nweight 1\n"), ("beat 0,0", "1"), ("shares", "9:7,2"),
        ):
            self.assertTrue(is_same(desk.tell(line), told))

    def test_policies_of_all_kinds(self):
        chance = Random(1)
        for _ in range(60):
            policy = some_policy(chance)
            desk = Desk(2, ALIKE)
            self.assertEqual(desk.tell("turn " + policy_text(policy)), "ok")
            self.assertEqual(desk.tell("policy"), policy_text(policy))
            self.assertEqual(Desk(3, policy).tell("policy"), policy_text(policy))
            self.assertTrue(read_policy(desk.tell("policy")) == policy)

    def test_foreseen(self):
        desk = Desk(2, Policy(6, (("weight", ("+", ("fact", "things"), ONE)),)))
        self.assertEqual(desk.tell("foreseen 1 0,0"), "6:3,3")
        self.assertEqual(desk.tell("foreseen 4 0,0"), "6:3,3 6:4,2 6:3,3 6:4,2")
        self.assertEqual(desk.tell("beats"), "0")
        told = desk.tell("foreseen 60 999999999,0")
        self.assertEqual(len(told.split(" ")), 60)

    def test_plans(self):
        chance = Random(2)
        for n in (1, 2, 3, 12):
            desk, house = Desk(n, NEEDING), House(n, NEEDING)
            for beats in (1, 5, 60):
                needs = tuple(chance.randint(0, 9) for _ in range(n))
                told = desk.tell(f"plan {beats} {needs_text(needs)}")
                lots = tuple((int(word),) for word in told.split(" "))
                self.assertEqual(told, texts(lot[0] for lot in lots))
                self.assertIs(is_plan(n, 1, house.foreseen(needs, beats), lots), True)
                self.assertEqual(desk.tell(f"plan {beats} {needs_text(needs)}"), told)
        self.assertEqual(Desk(2, Policy(1, (("weight", ("fact", "person")),))).tell("plan 3 0,0"), "1 1 1")

    def test_deeds_of_all_kinds(self):
        chance = Random(3)
        for n in range(1, 13):
            policy = some_policy(chance)
            desk, house = Desk(n, policy), House(n, policy)
            for _ in range(40):
                policy = self.do_something(desk, house, policy, chance)
                self.assertTrue(is_same(asked(desk), answers(house, policy)))
            self.assertEqual(read_row(desk.tell("row")), (n, 1, house.row()))

    def do_something(self, desk, house, policy, chance):
        """Do one deed and compare; the newest policy."""
        n, deed = len(house.debts()), chance.random()
        away = [person for person in range(n) if person not in house.here()]
        needs = tuple(chance.choice((0, 1, 10 ** 9 - 1, chance.randint(0, 99))) for _ in range(n))
        if deed < 0.5:
            self.assertEqual(desk.tell(f"beat {needs_text(needs)}"), str(house.beat(needs)))
        elif deed < 0.6:
            policy = some_policy(chance)
            house.turn(policy)
            self.assertEqual(desk.tell(f"turn {policy_text(policy)}"), "ok")
        elif deed < 0.75 and len(away) < n - 1:
            person = chance.choice(house.here())
            house.leave(person)
            self.assertEqual(desk.tell(f"leave {person}"), "ok")
        elif deed < 0.85 and away:
            person = chance.choice(away)
            self.assertEqual(desk.tell(f"come {person}"), str(house.come(person)))
        else:
            beats = chance.randint(1, 60)
            told = desk.tell(f"foreseen {beats} {needs_text(needs)}")
            self.assertEqual(told, shares_texts(house.foreseen(needs, beats)))
        return policy

    def test_four_hundred_beats(self):
        desk = Desk(2, ALIKE)
        for at in range(400):
            self.assertEqual(desk.tell("beat 0,0"), str(at % 2))
        self.raised(desk, (Full,), "beat 0,0")
        self.raised(desk, (NoNeeds,), "beat 0")
        self.raised(desk, (NoLine,), "beat")
        self.assertEqual((desk.tell("beats"), desk.tell("foreseen 2 0,0")), ("400", "2:1,1 2:1,1"))


class Raised(DeskTest):
    def test_needs(self):
        desk = ready()
        for needs in ("0", "0,0", "0,0,0,0", ",".join("0" * 400), "999999999"):
            self.raised(desk, (NoNeeds,), f"beat {needs}")
            for beats in (0, 1, 60, 61, 999999999):
                self.raised(desk, (NoNeeds,), f"foreseen {beats} {needs}")
                self.raised(desk, (NoNeeds,), f"plan {beats} {needs}")

    def test_numbers_of_beats(self):
        desk = ready()
        for beats in ("0", "61", "62", "400", "999999999"):
            self.raised(desk, (NoNumber,), f"foreseen {beats} 0,0,0")
            self.raised(desk, (NoNumber,), f"plan {beats} 0,0,0")

    def test_people_who_are_not_here(self):
        desk = ready()
        for person in ("1", "3", "12", "999999999"):
            self.raised(desk, (NotHere,), f"leave {person}")
        for person in ("0", "2", "3", "12", "999999999"):
            self.raised(desk, (HereAlready,), f"come {person}")
        desk.tell("leave 0")
        self.raised(desk, (LastOne,), "leave 2")
        self.raised(desk, (NotHere,), "leave 0")


class OtherForms(DeskTest):
    """What is no line of these forms, and nothing else."""

    def test_no_string(self):
        desk = ready()
        for thing in all_kinds() + [b"here", ["here"], ("here",), {"here": 1}]:
            if type(thing) is not str:
                self.no_line(desk, thing)

    def test_strings_of_all_kinds(self):
        for thing in all_kinds():
            if type(thing) is str:
                self.no_line(ready(), thing)

    def test_words_with_something_more(self):
        desk = ready()
        for word in ASKING:
            self.no_line(
                desk, word + " ", " " + word, word + "\n", "\n" + word, word + " " + word, word + " 1", word + " none",
                word[:-1], word + "s", word.upper(), word.capitalize(), word + ",", word + ".",
                f"({word})", word + " 0,0,0",
                word + "\t", word + "\n" + word, word + ":",
            )

    def test_words_without_what_they_ask_for(self):
        desk = ready()
        for word in ("beat", "turn", "leave", "come", "foreseen", "plan"):
            self.no_line(desk, word, word + " ", word + "  ", " " + word, word + "\n")
            self.no_line(desk, word.upper() + " 1", word + "s 1")
            self.no_line(desk, word + ",", word + ":", word + "\t1", word + "1", word + "-1", word + "\n1")

    def test_beats(self):
        desk = ready()
        self.no_line(
            desk, "beat  0,0,0", "beat 0,0,0 ", " beat 0,0,0", "beat 0, 0,0", "beat 0 ,0,0", "beat 0 0 0",
            "beat 0,0,0\n",
            "beat beat 0,0,0", "beat 0,0,0 0,0,0", "beat (0,0,0)", "beat 0,0,", "beat ,0,0", "beat 0,,0", "beat 0,0,0,",
            "Beat 0,0,0", "beats 0,0,0", "beat:0,0,0", "beat 0;0;0", "beat 0,0,-1", "beat -0,0,0", "beat 0,00,0",
            "beat 0,01,0", "beat 1 0,0,0", "beat none", "beat -", "beat need",
        )
        for word in NO_NUMBERS:
            self.no_line(desk, f"beat {word}")
            if "," not in word:
                self.no_line(desk, f"beat {word},0,0", f"beat 0,{word},0", f"beat 0,0,{word}", f"beat 0,0,0,{word}")

    def test_people(self):
        for deed in ("leave", "come"):
            desk = ready()
            self.no_line(
                desk, f"{deed}  0", f"{deed} 0 ", f" {deed} 0", f"{deed} 0\n", f"{deed} 0 0", f"{deed} 0,1",
                f"{deed} 0 1",
                f"{deed} {deed} 0", f"{deed.upper()} 0", f"{deed}s 0", f"{deed}:0", f"{deed} all", f"{deed} (0)",
            )
            self.no_line(desk, *[f"{deed} {word}" for word in NO_NUMBERS])

    def test_what_is_ahead(self):
        for deed in ("foreseen", "plan"):
            desk = ready()
            self.no_line(
                desk, f"{deed} 1", f"{deed} 1 ", f"{deed} 0,0,0", f"{deed} 0,0,0 1", f"{deed}  1 0,0,0",
                f"{deed} 1  0,0,0", f"{deed} 1 0,0,0 ", f" {deed} 1 0,0,0", f"{deed} 1 0,0,0\n", f"{deed} 1\n0,0,0",
                f"{deed} 1 1 0,0,0", f"{deed} 1 0,0,0 1", f"{deed} 1,0,0,0", f"{deed} 1 0 0 0", f"{deed} 1 0, 0,0",
                f"{deed}s 1 0,0,0", f"{deed.upper()} 1 0,0,0", f"{deed} {deed} 1 0,0,0", f"{deed} -1 0,0,0",
                f"{deed} 1 -1,0,0", f"{deed} 1 none", f"{deed} 1:0,0,0",
            )
            for word in NO_NUMBERS:
                self.no_line(desk, f"{deed} {word} 0,0,0", f"{deed} 1 {word}", f"{deed} {word}")
                if "," not in word:
                    self.no_line(desk, f"{deed} 1 {word},0,0", f"{deed} 1 0,0,{word}")
            # Wrong numbers of beats and wrong needs are looked at later.
            self.no_line(desk, f"{deed} 0 0,0,a", f"{deed} 61 00", f"{deed} a 0", f"{deed} 01 0")

    def test_texts_that_are_refused(self):
        desk = ready()
        for text in (
            "", "bottom 2", "weight 1\n", "bottom 0\n", "bottom 361\n", "bottom -1\n", "bottom 02\n",
            "bottom 2\nweight\n",
            "bottom 2\nweight 1", "bottom 2\nif 1 do\n", "bottom 2\n" + "weight 1\n" * 61, "bottom 2\n\n",
            "\nbottom 2\n",
            "bottom 2\n" + "if 1 do\n" * 4 + "end\n" * 4, " bottom 2\n", "bottom 2 \n", "bottom 2\n ", "bottom 1000\n",
            "row 2 1\n", "policy", "BOTTOM 2\n", "bottom 2\nweight b c\n", "turn bottom 2\n",
        ):
            self.no_line(desk, f"turn {text}")
        self.no_line(
            desk, "turn", "turnbottom 2\n", "turn\nbottom 2\n", "Turn bottom 2\n", " turn bottom 2\n",
            "turns bottom 2\n",
        )
        self.assertEqual(desk.tell("turn bottom 2\n"), "ok")

    def test_all_other_words(self):
        desk = ready()
        self.no_line(
            desk, "", " ", "\n", "none", "ok", "copy", "tell", "tale", "house", "teller", "dealer", "step", "greatest",
            "least", "worth", "windows", "bar", "least 3", "text", "debt", "person 0", "deal 0", "0", "1 2",
            "foresee 1 0,0,0",
            "plan_ahead 1 0,0,0", "kept", "owned 0", "_turn bottom 2\n", "__init__", "error", "(NoLine)", "-", ",",
        )
        for sign in SIGNS:
            self.no_line(desk, sign, sign + "here", sign + " here", sign + "beat 0,0,0", "leave" + sign, "come" + sign)
            if sign not in FIGURES:
                self.no_line(desk, f"leave {sign}", f"leave 0{sign}", f"beat 0,0,0{sign}", f"foreseen 1{sign} 0,0,0")
            if sign not in FIGURES + ",":
                self.no_line(desk, f"beat 0{sign}0,0")

    def test_thousands_of_signs(self):
        desk = ready()
        for text in ("(" * MANY, "1" * MANY, " " * MANY, "," * MANY, "a" * MANY, "\n" * MANY, "-" * MANY, "1 " * MANY):
            for word in (
                "", "beat ", "turn ", "leave ", "come ", "foreseen ", "plan ", "foreseen 1 ", "here", "turn bottom 2\n",
            ):
                self.no_line(desk, word + text)
        self.no_line(desk, "turn bottom 2\nweight " + "(not " * MANY + "1" + ")" * MANY + "\n")
        self.raised(desk, (NoNeeds,), "beat " + "1," * MANY + "1")


class Tales(DeskTest):
    def test_the_example_of_the_document(self):
        lines = [
            "shares", "beat 0,0", "shares", "debts", "beat 0,0", "deals", "leave 1", "leave 0", "settle", "beat 1",
        ]
        told = ["none", "0", "2:1,1", "-1/2 1/2", "1", "0 1", "ok", "(LastOne)", "none", "(NoNeeds)"]
        self.assertTrue(is_same(tale(2, ALIKE, lines), told))

    def test_errors_by_the_names_of_their_classes(self):
        lines = [
            "beat 0", "foreseen 0 0,0", "plan 61 0,0", "leave 2", "come 0", "leave 0", "leave 1", "a", None, "turn a",
        ]
        told = [
            "(NoNeeds)", "(NoNumber)", "(NoNumber)", "(NotHere)", "(HereAlready)", "ok", "(LastOne)", "(NoLine)",
            "(NoLine)",
            "(NoLine)",
        ]
        self.assertTrue(is_same(tale(2, ALIKE, lines), told))
        told = tale(2, ALIKE, ["beat 0,0"] * 401 + ["beat 0"])
        self.assertEqual(told, ["0", "1"] * 200 + ["(Full)", "(NoNeeds)"])

    def test_lists_and_tuples(self):
        lines = ["beat 0,0", "debts", "row", ["here"], 5, "here", "turn bottom 3\nweight 1\n", "policy"]
        told = ["0", "-1/2 1/2", "row 2 1\nshares 2 1,1\n", "(NoLine)", "(NoLine)", "0 1", "ok", "bottom 3\nweight 1\n"]
        self.assertTrue(is_same(tale(2, ALIKE, lines), told))
        self.assertTrue(is_same(tale(2, ALIKE, tuple(lines)), told))
        self.assertTrue(is_same(tale(2, ALIKE, ()), []))

    def test_no_lines(self):
        for thing in all_kinds():
            if type(thing) not in (list, tuple):
                self.assertEqual(told_by(tale, 2, ALIKE, thing), (NoLines,))
            else:
                self.assertEqual(tale(2, ALIKE, thing), ["(NoLine)"] * len(thing))
        for thing in ("here", "here\n", {"here": 1}, {0: "here"}, b"here"):
            self.assertEqual(told_by(tale, 2, ALIKE, thing), (NoLines,))

    def test_lines_of_all_kinds(self):
        for thing in all_kinds():
            self.assertEqual(tale(2, ALIKE, [thing, "beats"]), ["(NoLine)", "0"])

    def test_a_new_desk_each_time(self):
        lines = ["beat 0,0", "leave 0", "turn bottom 5\n", "beats", "here", "policy"]
        one, other = tale(2, ALIKE, lines), tale(2, ALIKE, lines)
        self.assertEqual(one, other)
        self.assertIsNot(one, other)
        one.append(None)
        one[0] = None
        self.assertEqual(tale(2, ALIKE, lines), other)
        self.assertEqual(lines, ["beat 0,0", "leave 0", "turn bottom 5\n", "beats", "here", "policy"])

    def test_nothing_is_changed(self):
        lines = [["here"], {"a": [1]}, "here", ("beat 0,0",)]
        ahead = snapshot(lines)
        tale(2, ALIKE, lines)
        self.assertEqual(lines, ahead)

    def test_as_a_desk_tells(self):
        chance = Random(4)
        for n in (1, 2, 5, 12):
            policy, desk = some_policy(chance), None
            lines = []
            for _ in range(60):
                needs = needs_text(chance.randint(0, 9) for _ in range(chance.choice((n, n, n, n + 1))))
                lines.append(chance.choice(ASKING + (
                    f"beat {needs}", f"beat {needs}", f"leave {chance.randint(0, n)}", f"come {chance.randint(0, n)}",
                    f"foreseen {chance.randint(0, 9)} {needs}", "turn " + policy_text(some_policy(chance)), "beat",
                    "turn a",
                )))
            desk, told = Desk(n, policy), []
            for line in lines:
                try:
                    told.append(desk.tell(line))
                except ValueError as error:
                    told.append(f"({type(error).__name__})")
            self.assertTrue(is_same(tale(n, policy, lines), told))

    def test_desks_stand_apart(self):
        one, other = Desk(2, ALIKE), Desk(2, ALIKE)
        for line in ("beat 0,0", "leave 0", "turn bottom 5\n"):
            one.tell(line)
        self.assertEqual(asked(other), answers(House(2, ALIKE), ALIKE))


if __name__ == "__main__":
    unittest.main()
