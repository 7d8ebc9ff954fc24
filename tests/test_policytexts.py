"""Point 2.4: policies as texts."""

import unittest
from random import Random

from harmonicdues import policytexts as module
from harmonicdues.errors import BadBlock, BadText, NoBottom, NoPolicy
from harmonicdues.policies import Policy
from harmonicdues.policytexts import policy_text, read_policy
from tests.things import SIGNS, all_kinds, nested, snapshot, some_policy, told_by

MOST = 10 ** 18
ONE = ("num", 1)
WEIGHT = ("weight", ONE)
WORDS = (
    "let", "keep", "own", "if", "else", "do", "end", "weight", "cap", "all",
    "min", "max", "mod", "and", "or", "not", "bottom",
)
FACTS = ("beat", "person", "need", "things", "people")
NAMES = ("a", "z", "ab", "abcdefgh", "num", "fact", "ends", "doo")


def written(a):
    """The text of an expression, as a format and its parts."""
    forms = {"num": "{}", "fact": "{}", "let": "{}", "keep": "all:{}", "own": "own:{}", "not": "(not {})"}
    parts = [written(part) if type(part) is tuple else str(part) for part in a[1:]]
    return forms.get(a[0], "({} " + a[0] + " {})").format(*parts)


def written_block(block):
    """The text of a block, all its lines closed."""
    text = ""
    for statement in block:
        if statement[0] == "if":
            text += f"if {written(statement[1])} do\n" + written_block(statement[2])
            text += ("else\n" + written_block(statement[3]) if statement[3] else "") + "end\n"
        elif len(statement) == 3:
            text += f"{statement[0]} {statement[1]} {written(statement[2])}\n"
        else:
            text += f"{statement[0]} {written(statement[1])}\n"
    return text


def simple_ones():
    """Expressions of one part, with their texts."""
    numbers = [(str(k), ("num", k)) for k in (0, 1, -1, 9, 10, 100, -10, 360, 10 ** 9, MOST, -MOST, MOST - 1, 1 - MOST)]
    facts = [(name, ("fact", name)) for name in FACTS]
    names = [(name, ("let", name)) for name in NAMES]
    names += [("all:" + name, ("keep", name)) for name in NAMES] + [("own:" + name, ("own", name)) for name in NAMES]
    return numbers + facts + names


def right_ones():
    """Expressions with their texts."""
    right = simple_ones()
    for text, a in simple_ones():
        right.append((f"(not {text})", ("not", a)))
        right.append((f"({text} - a)", ("-", a, ("let", "a"))))
        right.append((f"(own:b * {text})", ("*", ("own", "b"), a)))
    for sign in SIGNS:
        right.append((f"(1 {sign} 2)", (sign, ONE, ("num", 2))))
        inner = (sign, ("num", -1), ("keep", "a"))
        right.append((f"((not need) {sign} (-1 {sign} all:a))", (sign, ("not", ("fact", "need")), inner)))
        right.append((f"((1 {sign} 2) {sign} b)", (sign, (sign, ONE, ("num", 2)), ("let", "b"))))
        deep = nested(lambda x: f"({x} {sign} 1)", "1", 5)
        right.append((deep, nested(lambda x: (sign, x, ONE), ONE, 5)))
    right.append((nested(lambda x: f"(not {x})", "1", 5), nested(lambda x: ("not", x), ONE, 5)))
    # 15, 7 and 6 parts with the two that put these together are 30.
    six = ("+", full_one(2), ("not", ONE))
    text = f"({full_text(4)} + ({full_text(3)} + ((1 + 1) + (not 1))))"
    right.append((text, ("+", full_one(4), ("+", full_one(3), six))))
    return right


def full_one(depth):
    return ONE if depth == 1 else ("+", full_one(depth - 1), full_one(depth - 1))


def full_text(depth):
    return "1" if depth == 1 else f"({full_text(depth - 1)} + {full_text(depth - 1)})"


def wrong_ones():
    """Texts that are no expression."""
    wrong = [
        "", " ", "  ", "1 ", " 1", "01", "00", "000", "-0", "-00", "-01", "+1", "+0", "--1", "- 1", "-", "1-", "1.0",
        ".5", "1e3", "0x1", "1_0", "1,0", "1000000000000000001", "-1000000000000000001", "9" * 19, "-" + "9" * 19,
        "1" * 20, "1" * 60, "-" + "1" * 60, "0" * 19 + "1", "-a", "-beat", "1a", "a1", "a b", "1 2", "1 + 1", "a - b",
        "need need", "(1)", "(a)", "((1 + 1))", "()", "( )", "(", ")", ")(", "((", "))", "(1", "1)", "(1 + 1",
        "1 + 1)", "(1 + 1))", "((1 + 1)", "(1 +1)", "(1+ 1)", "(1+1)", "( 1 + 1)", "(1 + 1 )", "( 1 + 1 )",
        "(1  + 1)", "(1 +  1)", "(1 + 1) ", " (1 + 1)", "(+ 1 1)", "(1 1 +)", "(1 +)", "(+ 1)", "(- 1)", "(1 1)",
        "(1 + )", "( + 1)", "(1 + 1 + 1)", "(1 ++ 1)", "(1 + + 1)", "(1 + 1 1)", "(1 // 1)", "(1 ** 1)", "(1 > 1)",
        "(1 <= 1)", "(1 >= 1)", "(1 == 1)", "(1 != 1)", "(1 & 1)", "(1 | 1)", "(1 ^ 1)", "(1 xor 1)", "(1 plus 1)",
        "(1 a 1)", "(1 need 1)", "(1 2 3)", "(1 all:a 1)", "(1 AND 1)", "(1 Min 1)", "(1 minn 1)", "(1 if 1)",
        "(1 let 1)", "(1 all 1)", "(1 end 1)", "not 1", "(not)", "(not )", "(not 1 1)", "(not 1 + 1)", "(not not 1)",
        "(not(1 + 1))", "(not  1)", "( not 1)", "(not 1 )", "(NOT 1)", "(Not 1)", "(nott 1)", "(1 not 1)", "(1 not)",
        "(not (not 1)", "(not not)", "(- not)", "(not -)", "(1 + not)", "(not + 1)", "(+ + +)", "(1 + +)", "(min 1)",
        "(min 1 2)", "(if 1)", "(weight 1)", "(let a)", "(num 1)", "(fact beat)", "(all a)", "all:", "own:", "all: a",
        "own: a", "all :a", "all:a:b", ":a", "all:all:a", "all:own:a", "own:own:a", "own:all:a", "all:1", "own:-1",
        "own:0", "all:(not 1)", "all:a b", "a:all", "all:A", "own:aB", "all:abcdefghi", "own:a1", "All:a", "ALL:a",
        "Own:a", "keep:a", "let:a", "num:1", "own:a ", "A", "B", "aB", "Ab", "ABC", "a-b", "a_b", "a.b", "abcdefghi",
        "a" * 100, "Beat", "BEAT", "'a'", '"a"', "a,b", "(a, b)", "[1 + 1]", "{1 + 1}", "1;", "#", "(1 + 1)(1 + 1)",
        "(1 + 1) + 1", "(1 + 1)1", "1(1 + 1)", "(1 + 1) (1 + 1)", "(1 + (1 + 1)", "((1 + 1) + 1", "(a + (b))",
        "((a) + b)", "(a + b + (c + d))", "1 do", "do", "*", "+", "<", "=", "/", "(())", "(not ())", "(() + 1)",
        "('num', 1)", "(1 + 01)", "(-0 + 1)", "(1 + A)", "(1 + let)", "(beat + ends1)", "(1 + 1000000000000000001)",
    ]
    wrong += list(WORDS) + [store + word for store in ("all:", "own:") for word in WORDS + FACTS]
    for sign in SIGNS:
        wrong += [f"(1 {sign})", f"({sign} 1)", f"({sign} 1 1)", f"1 {sign} 1", f"(1 {sign} 1 {sign} 1)", f"({sign})"]
        wrong += [nested(lambda x: f"({x} {sign} 1)", "1", 6), nested(lambda x: f"(1 {sign} {x})", "1", 6)]
    wrong += [nested(lambda x: f"(not {x})", "1", depth) for depth in (6, 7, 50)]
    # 31, 31, 32 and 63 parts.
    wrong += [full_text(5), f"(not ({full_text(4)} + ({full_text(3)} + ({full_text(2)} + (not 1)))))"]
    wrong += [f"(not {full_text(5)})", full_text(6)]
    return wrong


def wrong_lines():
    """Lines that no text may have behind its first one, all but the ones with wrong expressions."""
    return [
        "", " ", "weight", "weight ", "cap", "let", "let a", "let a ", "keep", "own a", "if", "if 1", "if do",
        "if  do", "if 1 do ", "if 1  do", " if 1 do", "if 1 DO", "if 1 then", "if 1 do 1", "if 1do", "if (1 + 1)do",
        "do", "Weight 1", "WEIGHT 1", "weights 1", "weight1", "weight 1 1", "weight 1 ", " weight 1", "weight  1",
        "weight a 1", "weight = 1", "caps 1", "cap 1 ", " cap 1", "cap  1", "cap a 1", "let 1", "let a 1 ",
        "let a  1", "let  a 1", " let a 1", "let a = 1", "let a b 1", "let 1 a", "let A 1", "let a1 1",
        "let abcdefghi 1", "let all:a 1", "let own:a 1", "keep all:a 1", "own own:a 1", "keep  1", "own  1",
        "all a 1", "all:a 1", "set a 1", "a 1", "a = 1", "1", "a", "-", "bottom 6", "bottom", "else ", " else",
        "else if 1 do", "elses", "Else", "ELSE", "end ", " end", "ends", "End", "end end", "end 1", "else 1",
        "weight 1 # one", "# one", "weight 1;", "(weight 1)", "weight: 1", "if 1 do end", "if 1 do weight 1 end",
        "let let 1", "keep keep 1", "own own 1", "num 1", "not 1", "(not 1)",
    ] + [f"{store} {word} 1" for store in ("let", "keep", "own") for word in WORDS + FACTS]


class TextTest(unittest.TestCase):
    def wrong(self, text, line):
        with self.subTest(text=str(text)[:80], end=str(text)[-40:]):
            told = told_by(read_policy, text)
            self.assertEqual(told, (BadText, line))
            self.assertIs(type(told[1]), int)

    def reads(self, text, bottom, block):
        with self.subTest(text=text[:80]):
            policy = read_policy(text)
            self.assertIs(type(policy), Policy)
            self.assertEqual((policy.bottom, policy.block), (bottom, block))
            self.assertTrue(policy == Policy(bottom, block))

    def both(self, text, bottom, block):
        """A text that is written and read."""
        self.assertEqual(policy_text(Policy(bottom, block)), text)
        self.reads(text, bottom, block)


class Interface(unittest.TestCase):
    def test_functions_stand_in_their_module(self):
        for name in ("policy_text", "read_policy"):
            self.assertEqual(getattr(module, name).__module__, "harmonicdues.policytexts")


class WrittenAndRead(TextTest):
    def test_the_example_of_the_document(self):
        block = (
            ("weight", ("+", ("fact", "need"), ("num", 1))),
            ("if", ("=", ("fact", "person"), ("num", 0)), (("cap", ("num", 2)),), ()),
        )
        self.both("bottom 6\nweight (need + 1)\nif (person = 0) do\ncap 2\nend\n", 6, block)

    def test_no_statement(self):
        for bottom in range(1, 361):
            self.both(f"bottom {bottom}\n", bottom, ())

    def test_expressions(self):
        for text, a in right_ones():
            for line, statement in (
                (f"weight {text}\n", ("weight", a)), (f"cap {text}\n", ("cap", a)),
                (f"let b {text}\n", ("let", "b", a)), (f"keep b {text}\n", ("keep", "b", a)),
                (f"own b {text}\n", ("own", "b", a)), (f"if {text} do\nend\n", ("if", a, (), ())),
                (f"if {text} do\nweight {text}\nelse\ncap {text}\nend\n", ("if", a, (("weight", a),), (("cap", a),))),
            ):
                self.both("bottom 7\n" + line, 7, (statement,))
                self.both("bottom 7\ncap 1\n" + line + "weight 1\n", 7, (("cap", ONE), statement, WEIGHT))

    def test_names_of_stores(self):
        for name in NAMES:
            for store in ("let", "keep", "own"):
                self.both(f"bottom 1\n{store} {name} 0\n", 1, ((store, name, ("num", 0)),))

    def test_ifs(self):
        cap = ("cap", ("num", 2))
        self.both("bottom 6\nif 1 do\nweight 1\nend\n", 6, (("if", ONE, (WEIGHT,), ()),))
        self.both("bottom 6\nif 1 do\nelse\nweight 1\nend\n", 6, (("if", ONE, (), (WEIGHT,)),))
        self.both("bottom 6\nif 1 do\nweight 1\nelse\ncap 2\nend\n", 6, (("if", ONE, (WEIGHT,), (cap,)),))
        self.both("bottom 6\nif 1 do\nend\n", 6, (("if", ONE, (), ()),))
        self.both("bottom 6\nif 1 do\nend\nif a do\nend\n", 6, (("if", ONE, (), ()), ("if", ("let", "a"), (), ())))
        self.both(
            "bottom 6\nif 1 do\nweight 1\ncap 2\nelse\ncap 2\nweight 1\ncap 2\nend\nweight 1\n",
            6, (("if", ONE, (WEIGHT, cap), (cap, WEIGHT, cap)), WEIGHT),
        )

    def test_ifs_in_ifs(self):
        inner = ("if", ("fact", "beat"), (WEIGHT,), ())
        text = "if beat do\nweight 1\nend\n"
        self.both(f"bottom 6\nif 1 do\n{text}end\n", 6, (("if", ONE, (inner,), ()),))
        self.both(f"bottom 6\nif 1 do\nelse\n{text}end\n", 6, (("if", ONE, (), (inner,)),))
        self.both(f"bottom 6\nif 1 do\n{text}else\n{text}{text}end\n", 6, (("if", ONE, (inner,), (inner, inner)),))
        twice = f"if 1 do\n{text}weight 1\nelse\nif need do\nelse\n{text}end\nend\n"
        block = ("if", ONE, (inner, WEIGHT), (("if", ("fact", "need"), (), (inner,)),))
        self.both(f"bottom 6\nweight 1\n{twice}{twice}weight 1\n", 6, (WEIGHT, block, block, WEIGHT))
        four = f"if 0 do\nelse\nif 1 do\n{text}weight 1\nelse\n{text}end\nend\n"
        block = ("if", ("num", 0), (), (("if", ONE, (inner, WEIGHT), (inner,)),))
        self.both(f"bottom 6\n{four}{four}", 6, (block, block))

    def test_as_much_as_is_let(self):
        self.both("bottom 360\n" + "weight 1\n" * 60, 360, (WEIGHT,) * 60)
        block = nested(lambda x: (("if", ONE, x, ()),), (WEIGHT,) * 57, 3)
        self.both("bottom 360\n" + "if 1 do\n" * 3 + "weight 1\n" * 57 + "end\n" * 3, 360, block)

    def test_random_policies(self):
        chance = Random(1)
        for _ in range(500):
            policy = some_policy(chance)
            text = f"bottom {policy.bottom}\n" + written_block(policy.block)
            self.both(text, policy.bottom, policy.block)
            self.assertTrue(read_policy(policy_text(policy)) == policy)
            self.assertEqual(policy_text(read_policy(text)), text)

    def test_equal_calls_give_equal_answers(self):
        policy = Policy(6, (WEIGHT, ("if", ONE, (WEIGHT,), ())))
        text = policy_text(policy)
        self.assertIs(type(text), str)
        self.assertEqual(policy_text(policy), text)
        self.assertTrue(read_policy(text) == read_policy(text))
        self.assertEqual((policy.bottom, policy.block), (6, (WEIGHT, ("if", ONE, (WEIGHT,), ()))))


class NoPolicies(unittest.TestCase):
    def test_things_of_all_kinds(self):
        things = [thing for thing in all_kinds() if type(thing) is not Policy]
        for thing in things + [(6, (WEIGHT,)), [6, ()], "bottom 6\n", {"bottom": 6, "block": ()}, Policy]:
            with self.subTest(kind=type(thing).__name__):
                self.assertEqual(told_by(policy_text, thing), (NoPolicy,))

    def test_nothing_is_changed(self):
        for thing in ([6, [WEIGHT]], {"bottom": 6, "block": [WEIGHT]}, (6, [WEIGHT])):
            ahead = snapshot(thing)
            self.assertEqual(told_by(policy_text, thing), (NoPolicy,))
            self.assertEqual(told_by(read_policy, thing), (BadText, 0))
            self.assertEqual(thing, ahead)


class OnlyRead(TextTest):
    def test_an_else_with_nothing_behind_it(self):
        self.reads("bottom 6\nif 1 do\nelse\nend\n", 6, (("if", ONE, (), ()),))
        self.reads("bottom 6\nif 1 do\nweight 1\nelse\nend\n", 6, (("if", ONE, (WEIGHT,), ()),))
        text = "bottom 6\nif 1 do\nif 1 do\nelse\nend\nelse\nend\nweight 1\n"
        self.reads(text, 6, (("if", ONE, (("if", ONE, (), ()),), ()), WEIGHT))
        self.assertEqual(policy_text(read_policy(text)), "bottom 6\nif 1 do\nif 1 do\nend\nend\nweight 1\n")


class Bottoms(TextTest):
    def test_no_bottom(self):
        for figures in ("0", "361", "362", "400", "999"):
            self.assertEqual(told_by(read_policy, f"bottom {figures}\n"), (NoBottom,))
            self.assertEqual(told_by(read_policy, f"bottom {figures}\nweight 1\n"), (NoBottom,))

    def test_wrong_first_lines(self):
        for line in (
            "", " ", "bottom", "bottom ", "bottom  6", " bottom 6", "bottom 6 ", "bottom6", "bottom 06", "bottom 00",
            "bottom 000", "bottom 006", "bottom 1000", "bottom 3600", "bottom 0360", "bottom 0001", "bottom -0",
            "bottom +6", "bottom --6", "bottom 6.0", "bottom 6/1", "bottom 6 6", "bottom six", "bottom a",
            "bottom (1 + 1)", "bottom need", "bottom: 6", "bottom=6", "bottom = 6", "Bottom 6", "BOTTOM 6",
            "bottoms 6", "top 6", "6", "weight 1", "end", "else", "if 1 do", "let a 1", "# 6", "bottom 1e2",
            "bottom 0x6", "bottom 1_0", "bottom 6;", "bottom 6,", "row 2 1", "bottom 1" + "0" * 30,
            "bottom " + "9" * 5000, "bottom -" + "9" * 5000, "bottom -1000", "bottom -12", "bottom -5",
        ):
            self.wrong(line + "\n", 1)
            self.wrong(line + "\nweight 1\n", 1)
            self.wrong(line + "\nweight\n", 1)
            self.wrong(line + "\nweight 1", 1)
            self.wrong(line, 1)

    def test_a_sign_is_no_figure(self):
        for figures in ("1", "5", "6", "12", "99", "100", "360", "361", "999", "0", "00", "-1", ""):
            for rest in ("", "weight need\n", "\nweight things", "weight\n", "weight 1", "if 1 do\n", "if 1 do\n" * 5):
                self.wrong(f"bottom -{figures}\n{rest}", 1)
                self.wrong(f"bottom +{figures}\n{rest}", 1)
            self.wrong(f"bottom {figures}-\n", 1)
        self.reads("bottom 360\nweight -360\n", 360, (("weight", ("num", -360)),))

    def test_order_of_the_errors(self):
        deep = "if 1 do\n" * 4 + "end\n" * 4
        many = "weight 1\n" * 61
        for figures in ("0", "361", "999"):
            for rest in (deep, many, deep + many):
                self.assertEqual(told_by(read_policy, f"bottom {figures}\n{rest}"), (NoBottom,))
                lines = 2 + rest.count("\n")
                self.wrong(f"bottom {figures}\n{rest}weight\n", lines)
                self.wrong(f"bottom {figures}\n{rest}weight 1", lines)
                self.wrong(f"bottom {figures}\n{rest}if 1 do\n", lines + 1)
        self.wrong("bottom 1000\n" + deep, 1)
        self.wrong("bottom 6\n" + deep + "end\n", 10)
        self.wrong("bottom 6\n" + many + "ends\n", 63)


class Blocks(TextTest):
    def bad_block(self, text, place):
        with self.subTest(text=text[:80]):
            told = told_by(read_policy, text)
            self.assertEqual(told, (BadBlock, place))
            self.assertIs(type(told[1]), tuple)

    def test_five_deep(self):
        place = (0, 0, 0, 0, 0, 0, 0)
        for text in ("", "weight 1\n", "else\n", "else\nweight 1\n"):
            self.bad_block("bottom 6\n" + "if 1 do\n" * 4 + text + "end\n" * 4, place)
        self.bad_block("bottom 6\nweight 1\n" + "if 1 do\nweight 1\ncap 1\n" * 4 + "end\n" * 4, (1, 0, 2, 0, 2, 0, 2))
        self.bad_block("bottom 6\n" + "if 1 do\nweight 1\nelse\ncap 1\n" * 4 + "end\n" * 4, (0, 1, 1, 1, 1, 1, 1))
        text = "if 1 do\nelse\nif 1 do\nif 1 do\nelse\nif 1 do\n"
        self.bad_block("bottom 6\n" + text + "end\n" * 4, (0, 1, 0, 0, 0, 1, 0))
        right = "if 1 do\n" * 3 + "end\n" * 3
        self.reads("bottom 6\n" + right, 6, nested(lambda x: (("if", ONE, x, ()),), (), 3))
        self.bad_block("bottom 6\n" + right + "if 1 do\n" * 4 + "end\n" * 4, (1, 0, 0, 0, 0, 0, 0))
        self.bad_block("bottom 6\n" + ("if 1 do\n" * 4 + "end\n" * 4) * 2, place)

    def test_sixty_one_statements(self):
        self.bad_block("bottom 6\n" + "weight 1\n" * 61, ())
        self.bad_block("bottom 6\nif 1 do\n" + "weight 1\n" * 60 + "end\n", ())
        self.bad_block("bottom 6\nif 1 do\nelse\n" + "weight 1\n" * 60 + "end\n", ())
        self.bad_block("bottom 6\n" + "if 1 do\nend\n" * 61, ())
        self.reads("bottom 6\n" + "if 1 do\nend\n" * 60, 6, (("if", ONE, (), ()),) * 60)

    def test_the_place_comes_ahead_of_too_many(self):
        self.bad_block("bottom 6\n" + "weight 1\n" * 61 + "if 1 do\n" * 4 + "end\n" * 4, (61, 0, 0, 0, 0, 0, 0))


class NoTexts(TextTest):
    def test_no_string(self):
        for thing in all_kinds():
            if type(thing) is not str:
                self.wrong(thing, 0)
        for thing in (b"bottom 6\n", ["bottom 6\n"], ("bottom 6\n",), {"bottom 6\n": 1}, Policy(6, ())):
            self.wrong(thing, 0)

    def test_strings_of_all_kinds(self):
        for thing in all_kinds():
            if type(thing) is str:
                self.wrong(thing, 1)

    def test_no_line(self):
        for text in ("", "bottom 6", "bottom 0", "bottom", "weight 1", " ", "a"):
            self.wrong(text, 1)

    def test_empty_lines(self):
        self.wrong("\n", 1)
        self.wrong("\n\n\n", 1)
        self.wrong("\nbottom 6\n", 1)
        self.wrong("bottom 6\n\n", 2)
        self.wrong("bottom 6\n\nweight 1\n", 2)
        self.wrong("bottom 6\nweight 1\n\n", 3)
        self.wrong("bottom 6\n \n", 2)

    def test_something_behind_the_last_line_feed(self):
        for rest in ("weight 1", "weight", " ", "end", "else", "a", "bottom 6", "("):
            self.wrong("bottom 6\n" + rest, 2)
            self.wrong("bottom 6\nweight 1\ncap 1\n" + rest, 4)
            self.wrong("bottom 6\nif 1 do\n" + rest, 3)
            self.wrong("bottom 6\nif 1 do\nend\n" + rest, 4)
            self.wrong("bottom 0\n" + rest, 2)

    def test_a_lacking_end(self):
        self.wrong("bottom 6\nif 1 do\n", 3)
        self.wrong("bottom 6\nif 1 do\nelse\n", 4)
        self.wrong("bottom 6\nif 1 do\nweight 1\n", 4)
        self.wrong("bottom 6\nif 1 do\nif 1 do\nend\n", 5)
        self.wrong("bottom 6\nif 1 do\nif 1 do\nelse\nend\nweight 1\n", 7)
        self.wrong("bottom 6\nif 1 do\nif 1 do\n", 4)
        self.wrong("bottom 6\nif 1 do\nend", 3)
        self.wrong("bottom 0\nif 1 do\n", 3)

    def test_the_first_wrong_line(self):
        for count in range(6):
            ahead = "bottom 6\n" + "weight 1\n" * count
            self.wrong(ahead + "weight\n", count + 2)
            self.wrong(ahead + "weight\ncap\n", count + 2)
            self.wrong(ahead + "weight\ncap", count + 2)
            self.wrong(ahead + "weight\nif 1 do\n", count + 2)
            self.wrong(ahead + "if 1 do\nweight\n", count + 3)
            self.wrong(ahead + "if 1 do\nelse\nweight\n", count + 4)
            self.wrong(ahead + "if 1 do\nelse\nend\nweight\n", count + 5)

    def test_else_and_end_where_none_can_stand(self):
        for line in ("else", "end"):
            self.wrong(f"bottom 6\n{line}\n", 2)
            self.wrong(f"bottom 6\n{line}\nend\n", 2)
            self.wrong(f"bottom 6\nweight 1\n{line}\n", 3)
            self.wrong(f"bottom 6\nif 1 do\nend\n{line}\n", 4)
            self.wrong(f"bottom 6\nif 1 do\nelse\nend\n{line}\nend\n", 5)
            self.wrong(f"bottom 6\nif 1 do\nif 1 do\nend\nend\n{line}\n", 6)
        self.wrong("bottom 6\nif 1 do\nelse\nelse\nend\n", 4)
        self.wrong("bottom 6\nif 1 do\nelse\nweight 1\nelse\nend\n", 5)
        self.wrong("bottom 6\nif 1 do\nelse\nif 1 do\nelse\nend\nelse\nend\n", 7)
        self.wrong("bottom 6\nif 1 do\nelse\nif 1 do\nend\nelse\nend\n", 6)
        self.wrong("bottom 6\nif 1 do\nif 1 do\nelse\nelse\nend\nend\n", 5)
        self.reads(
            "bottom 6\nif 1 do\nif 1 do\nelse\nend\nelse\nif 1 do\nelse\nend\nend\n",
            6, (("if", ONE, (("if", ONE, (), ()),), (("if", ONE, (), ()),)),),
        )

    def test_wrong_lines(self):
        for line in wrong_lines():
            self.wrong(f"bottom 6\n{line}\n", 2)
            self.wrong(f"bottom 6\nweight 1\nif 1 do\n{line}\nelse\nend\n", 4)
            self.wrong(f"bottom 6\nweight 1\nif 1 do\nelse\n{line}\nend\n", 5)

    def test_wrong_expressions(self):
        for text in wrong_ones():
            for line in (f"weight {text}", f"cap {text}", f"let a {text}", f"keep a {text}", f"own a {text}"):
                self.wrong(f"bottom 6\n{line}\n", 2)
            self.wrong(f"bottom 6\nweight 1\nif {text} do\nend\n", 3)
            self.wrong(f"bottom 6\nif {text} do\n", 2)
            if "(" not in text:
                self.wrong(f"bottom 6\nweight (not {text})\n", 2)
                self.wrong(f"bottom 6\nweight ({text} + 1)\n", 2)
                self.wrong(f"bottom 6\nweight (1 + {text})\n", 2)

    def test_all_other_signs(self):
        for sign in [chr(code) for code in range(32, 127)]:
            if not ("a" <= sign <= "z" or "0" <= sign <= "9"):
                for text in (sign, sign + "a", "a" + sign, "a" + sign + "b", sign + sign):
                    self.wrong(f"bottom 6\nweight {text}\n", 2)
                    self.wrong(f"bottom 6\nlet {text} 1\n", 2)


class Thousands(TextTest):
    """Texts that are long or deep raise nothing else."""

    MANY = 20000

    def test_brackets(self):
        for text in (
            "(" * self.MANY, ")" * self.MANY, "(" * self.MANY + ")" * self.MANY, "(not " * self.MANY,
            "(not " * self.MANY + "1" + ")" * self.MANY,
            "(1 + " * self.MANY + "1" + ")" * self.MANY, "(" * self.MANY + "1" + " + 1)" * self.MANY,
            "((not 1) " * self.MANY, "(not 1)" * self.MANY, "()" * self.MANY, "( " * self.MANY, " )" * self.MANY,
            "not " * self.MANY + "1", "(1 + 1) + " * self.MANY + "1",
        ):
            self.wrong(f"bottom 6\nweight {text}\n", 2)
            self.wrong(f"bottom 6\nif {text} do\nend\n", 2)
            self.wrong(f"bottom 6\n{text}\n", 2)
            self.wrong(text, 1)

    def test_figures(self):
        for text in ("1" * self.MANY, "-" + "1" * self.MANY, "0" * self.MANY, "-" * self.MANY, "a" * self.MANY):
            self.wrong(f"bottom 6\nweight {text}\n", 2)
            self.wrong(f"bottom 6\nlet {text} 1\n", 2)
            self.wrong(f"bottom 6\nlet a (1 + all:{text})\n", 2)
            self.wrong(f"bottom {text}\n", 1)

    def test_ifs(self):
        deep = "if 1 do\n" * self.MANY
        ends = "end\n" * self.MANY
        self.assertEqual(told_by(read_policy, "bottom 6\n" + deep + ends), (BadBlock, (0, 0, 0, 0, 0, 0, 0)))
        self.assertEqual(told_by(read_policy, "bottom 0\n" + deep + ends), (NoBottom,))
        elses = "if 1 do\nelse\n" * self.MANY
        self.assertEqual(told_by(read_policy, "bottom 6\n" + elses + ends), (BadBlock, (0, 1, 0, 1, 0, 1, 0)))
        self.wrong("bottom 6\n" + deep, self.MANY + 2)
        self.wrong("bottom 6\n" + deep + ends[4:], 2 * self.MANY + 1)
        self.wrong("bottom 6\n" + deep + ends + "end\n", 2 * self.MANY + 2)
        self.wrong("bottom 6\n" + deep + "weight\n" + ends, self.MANY + 2)
        self.wrong("bottom 6\n" + ends, 2)

    def test_statements(self):
        self.assertEqual(told_by(read_policy, "bottom 6\n" + "weight 1\n" * self.MANY), (BadBlock, ()))
        self.wrong("bottom 6\n" + "weight 1\n" * self.MANY + "weight 1", self.MANY + 2)
        self.wrong("bottom 6\n" + "weight 1\n" * self.MANY + "weight\n", self.MANY + 2)
        self.wrong("\n" * self.MANY, 1)
        self.wrong("bottom 6\n" * self.MANY, 2)


if __name__ == "__main__":
    unittest.main()
