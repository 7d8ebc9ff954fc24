"""Points 2.1 and 2.2: names, expressions, statements, and policies."""

import unittest

from harmonicdues import policies as module
from harmonicdues.errors import BadBlock, NoBottom
from harmonicdues.policies import Policy
from tests.things import all_kinds, deep_things, nested, no_integers, other_things, snapshot, told_by, tuples

WORDS = (
    "let", "keep", "own", "if", "else", "do", "end", "weight", "cap", "all",
    "min", "max", "mod", "and", "or", "not", "bottom",
)
FACTS = ("beat", "person", "need", "things", "people")
SIGNS = ("+", "-", "*", "/", "mod", "min", "max", "<", "=", "and", "or")
STORES = ("let", "keep", "own")
MOST = 10 ** 18

ONE = ("num", 1)
WEIGHT = ("weight", ONE)
WRONG = ("weight", ("num", "1"))


def full(depth):
    """The expression of this depth in which each part but the deepest has two."""
    return ONE if depth == 1 else ("+", full(depth - 1), full(depth - 1))


def nots(depth):
    return nested(lambda x: ("not", x), ONE, depth - 1)


def chosen(*block):
    """An if whose first block is this one."""
    return ("if", ONE, block, ())


def other_chosen(*block):
    """An if whose second block is this one."""
    return ("if", ONE, (), block)


def no_strings():
    return [thing for thing in all_kinds() if type(thing) is not str]


class PolicyTest(unittest.TestCase):
    def right_block(self, block):
        with self.subTest(block=str(block)[:80]):
            self.assertIsNone(told_by(Policy, 6, block))

    def wrong_block(self, block, place):
        with self.subTest(block=str(block)[:80]):
            told = told_by(Policy, 6, block)
            self.assertEqual(told, (BadBlock, place))
            self.assertEqual([type(part) for part in told[1]], [int] * len(place))

    def right(self, expression):
        """An expression, wherever one stands."""
        for statement in self.statements_with(expression):
            self.right_block((statement,))

    def wrong(self, expression):
        """No expression, wherever one has to stand."""
        for statement in self.statements_with(expression):
            self.wrong_block((statement,), (0,))

    def statements_with(self, a):
        stores = [(store, "a", a) for store in STORES]
        return stores + [("weight", a), ("cap", a), ("if", a, (), ()), ("if", a, (WEIGHT,), (WEIGHT,))]


class Bottoms(PolicyTest):
    def test_policy_stands_in_its_module(self):
        self.assertEqual(Policy.__module__, "harmonicdues.policies")
        self.assertIs(module.Policy, Policy)
        self.assertIn("__init__", vars(Policy))
        self.assertIn("__eq__", vars(Policy))

    def test_right_ones(self):
        for bottom in range(1, 361):
            self.assertEqual(Policy(bottom, ()).bottom, bottom)
            self.assertEqual(Policy(bottom, (WEIGHT,)).bottom, bottom)

    def test_wrong_ones(self):
        for bottom in [0, -1, 361, 362, -360, 10 ** 59, -(10 ** 59)] + no_integers():
            for block in ((), (WEIGHT,)):
                with self.subTest(kind=type(bottom).__name__, block=block):
                    self.assertEqual(told_by(Policy, bottom, block), (NoBottom,))

    def test_no_bottom_comes_ahead_of_bad_block(self):
        for bottom in (0, 361, True, None, "6", (6,)):
            for block in (None, [], (WRONG,), (WEIGHT,) * 61, 0):
                with self.subTest(bottom=bottom, block=str(block)[:60]):
                    self.assertEqual(told_by(Policy, bottom, block), (NoBottom,))


class Numbers(PolicyTest):
    def test_right_ones(self):
        for k in (0, 1, -1, 360, 10 ** 9, MOST - 1, MOST, 1 - MOST, -MOST):
            self.right(("num", k))

    def test_beyond_the_greatest(self):
        for k in (MOST + 1, -MOST - 1, 2 * MOST, 10 ** 59, -(10 ** 59)):
            self.wrong(("num", k))

    def test_no_integers(self):
        for k in no_integers():
            self.wrong(("num", k))

    def test_parts_less_or_more(self):
        for thing in (("num",), ("num", 1, 1), ("num", 1, ONE), ("num", (1,)), (1,), (1, "num")):
            self.wrong(thing)
        for thing in (["num", 1], ["num"], "num", 0, 1):
            self.wrong(thing)


class Names(PolicyTest):
    def right_name(self, name):
        for store in STORES:
            self.right((store, name))
            self.right_block(((store, name, ONE),))

    def wrong_name(self, name):
        for store in STORES:
            self.wrong((store, name))
            self.wrong_block(((store, name, ONE),), (0,))

    def test_right_ones(self):
        for name in ("a", "z", "ab", "abcdefgh", "stuvwxyz", "zzzzzzzz", "num", "fact", "lets", "beats", "bottoms"):
            self.right_name(name)

    def test_all_letters(self):
        for letter in "abcdefghijklmnopqrstuvwxyz":
            self.right_name(letter)
            self.right_name(letter * 8)

    def test_too_short_or_long(self):
        for name in ("", "abcdefghi", "a" * 9, "a" * 10000):
            self.wrong_name(name)

    def test_words_and_facts(self):
        for name in WORDS + FACTS:
            self.wrong_name(name)

    def test_parts_of_words_and_facts(self):
        for name in WORDS + FACTS:
            for part in (name[:-1], name[1:]):
                if part and part not in WORDS + FACTS:
                    self.right_name(part)

    def test_all_other_signs(self):
        for sign in [chr(code) for code in range(32, 127)] + ["\n"]:
            if not ("a" <= sign <= "z"):
                for name in (sign, "a" + sign, sign + "a", "a" + sign + "b"):
                    self.wrong_name(name)

    def test_capitals(self):
        for name in ("A", "aB", "Ab", "ABC", "LET", "Beat"):
            self.wrong_name(name)

    def test_things_of_all_kinds(self):
        for thing in all_kinds():
            if thing not in ("a", "num"):
                self.wrong_name(thing)
        for thing in (["a"], ("a",), ("a", "b"), {"a": 1}, b"a", [], ()):
            self.wrong_name(thing)

    def test_parts_less_or_more(self):
        for store in STORES:
            for thing in ((store,), (store, "a", "b"), (store, "a", ONE), [store, "a"], store):
                self.wrong(thing)


class Facts(PolicyTest):
    def test_right_ones(self):
        for fact in FACTS:
            self.right(("fact", fact))

    def test_wrong_ones(self):
        for fact in WORDS + ("a", "", "beats", "BEAT", "Need", "bea", "num", "fact", " beat"):
            self.wrong(("fact", fact))

    def test_things_of_all_kinds(self):
        for thing in all_kinds():
            if thing != "need":
                self.wrong(("fact", thing))

    def test_parts_less_or_more(self):
        for thing in (("fact",), ("fact", "beat", "need"), ["fact", "beat"], "beat", ("beat",), ("fact", ("beat",))):
            self.wrong(thing)


class Signs(PolicyTest):
    def test_right_ones(self):
        parts = (ONE, ("num", -5), ("fact", "need"), ("let", "a"), ("keep", "b"), ("own", "c"), ("not", ONE))
        for a in parts:
            self.right(("not", a))
            for sign in SIGNS:
                self.right((sign, a, ("fact", "beat")))
                self.right((sign, ("fact", "beat"), a))
                self.right((sign, a, (sign, a, a)))

    def test_division_by_nought_is_an_expression(self):
        self.right(("/", ONE, ("num", 0)))
        self.right(("mod", ONE, ("num", 0)))
        self.right(("*", ("num", MOST), ("num", MOST)))

    def test_unknown_signs(self):
        for sign in (
            ">", "<=", ">=", "==", "!=", "//", "**", "^", "&", "|", "xor", "nor", "if", "", " ", "+ ", "MIN", "Mod",
            "abs", "neg", "num", "fact", "let", "keep", "own", "weight", "cap", "do", "all", "not", "andor",
        ):
            self.wrong((sign, ONE, ONE))

    def test_unknown_words_of_one_part(self):
        for word in SIGNS + ("neg", "abs", "", "a", "if", "weight", "cap", "do", "all", "nots"):
            self.wrong((word, ONE))

    def test_parts_less_or_more(self):
        for sign in SIGNS:
            for thing in ((sign,), (sign, ONE), (sign, ONE, ONE, ONE), [sign, ONE, ONE], sign, (sign, (ONE, ONE))):
                self.wrong(thing)
        for thing in (("not",), ("not", ONE, ONE), ["not", ONE], "not", ("not", (ONE,)), ("not", ())):
            self.wrong(thing)

    def test_wrong_parts(self):
        for part in (1, True, None, "a", "need", ["num", 1], ("num", True), ("num", MOST + 1), ("let", "let"), (), []):
            self.wrong(("not", part))
            self.wrong(("not", ("not", part)))
            for sign in SIGNS:
                self.wrong((sign, part, ONE))
                self.wrong((sign, ONE, part))
                self.wrong((sign, ONE, (sign, ONE, part)))
                self.wrong((sign, (sign, part, ONE), ONE))

    def test_statements_are_no_expressions(self):
        for thing in (WEIGHT, ("cap", ONE), ("let", "a", ONE), ("if", ONE, (), ()), ()):
            self.wrong(thing)
            self.wrong(("not", thing))


class Sizes(PolicyTest):
    def test_six_deep(self):
        for depth in range(1, 7):
            self.right(nots(depth))
            for sign in SIGNS:
                self.right(nested(lambda x: (sign, x, ONE), ONE, depth - 1))
                self.right(nested(lambda x: (sign, ONE, x), ONE, depth - 1))

    def test_seven_deep(self):
        for depth in (7, 8, 20, 38):
            self.wrong(nots(depth))
            for sign in SIGNS:
                self.wrong(nested(lambda x: (sign, x, ONE), ONE, depth - 1))
                self.wrong(nested(lambda x: (sign, ONE, x), ONE, depth - 1))

    def test_the_deepest_part_counts(self):
        for deep in (("fact", "need"), ("let", "a"), ("keep", "a"), ("own", "a")):
            self.right(nested(lambda x: ("not", x), deep, 5))
            self.wrong(nested(lambda x: ("not", x), deep, 6))
        self.right(("+", nots(5), nots(2)))
        self.right(("+", nots(2), nots(5)))
        self.wrong(("+", nots(6), nots(2)))
        self.wrong(("+", nots(2), nots(6)))

    def test_thirty_parts(self):
        # full(2) to full(4) have 3, 7 and 15 parts, six has 6.
        six = ("+", full(2), ("not", ONE))
        self.right(("+", full(4), ("+", full(3), six)))
        self.right(("+", ("+", six, full(3)), full(4)))
        self.right(("+", ("+", full(3), full(3)), ("+", six, full(3))))
        self.right(("not", ("+", full(4), ("+", six, six))))
        self.right(("min", ("not", ("not", full(3))), ("+", full(4), ("not", full(2)))))

    def test_thirty_one_parts(self):
        self.wrong(full(5))
        self.wrong(("+", ("not", ("not", full(3))), ("+", full(4), ("+", ONE, full(2)))))
        self.wrong(("not", ("+", full(4), ("+", full(3), ("+", full(2), ("not", ONE))))))
        self.wrong(("min", full(4), ("max", ("and", full(2), full(2)), ("or", full(2), full(2)))))

    def test_many_more_parts(self):
        self.wrong(full(6))
        self.wrong(full(7))
        self.wrong(("not", full(5)))

    def test_each_expression_has_parts_of_its_own(self):
        near = ("+", full(4), ("+", full(3), ("+", full(2), ("not", ONE))))
        self.right_block((("weight", near), ("cap", near), ("let", "a", near), ("if", near, (WEIGHT,), ())) * 12)


class Expressions(PolicyTest):
    def test_things_of_all_kinds(self):
        for thing in all_kinds():
            self.wrong(thing)
            self.wrong(("not", thing))
            self.wrong(("+", thing, ONE))
            self.wrong(("+", ONE, thing))

    def test_heads_of_all_kinds(self):
        for thing in no_strings():
            self.wrong((thing,))
            self.wrong((thing, ONE))
            self.wrong((thing, 1))
            self.wrong((thing, "a"))
            self.wrong((thing, ONE, ONE))


class Statements(PolicyTest):
    def test_right_ones(self):
        for a in (ONE, ("fact", "need"), ("+", ("own", "a"), ONE), nots(6)):
            for statement in self.statements_with(a):
                self.right_block((statement,))
                self.right_block((statement, statement))
                self.right_block((chosen(statement),))
                self.right_block((other_chosen(statement),))

    def test_empty_blocks(self):
        self.right_block(())
        self.right_block((("if", ONE, (), ()),))

    def test_parts_less_or_more(self):
        for wrong in (
            (), ("let",), ("let", "a"), ("let", "a", ONE, ONE), ("keep", "a"), ("keep", "a", ONE, ()), ("own", "a"),
            ("own",), ("own", "a", ONE, "b"), ("weight",), ("weight", ONE, ONE), ("weight", "a", ONE), ("cap",),
            ("cap", ONE, ONE), ("if",), ("if", ONE), ("if", ONE, ()), ("if", ONE, (), (), ()), ("if", ONE, (WEIGHT,)),
            ("if", (), ()), ("let", ONE), ("let", ONE, "a"),
        ):
            self.wrong_block((wrong,), (0,))
            self.wrong_block((WEIGHT, wrong, WEIGHT), (1,))

    def test_lists_for_tuples(self):
        for wrong in (
            ["let", "a", ONE], ["weight", ONE], ["cap", ONE], ["if", ONE, (), ()], ("if", ONE, [], ()),
            ("if", ONE, (), []), ("if", ONE, [WEIGHT], ()), ("if", ONE, (), [WEIGHT]), ("weight", ["num", 1]),
            ("if", ["num", 1], (), ()), ("keep", ["a"], ONE), [],
        ):
            self.wrong_block((wrong,), (0,))

    def test_unknown_words(self):
        for word in (
            "set", "", "LET", "Weight", "weights", "ca", "caps", "else", "end", "do", "num", "not", "+", "all",
        ):
            for wrong in ((word,), (word, ONE), (word, "a", ONE), (word, ONE, ONE), (word, ONE, (), ())):
                self.wrong_block((wrong,), (0,))

    def test_expressions_are_no_statements(self):
        for wrong in (ONE, ("fact", "need"), ("let", "a"), ("+", ONE, ONE), ("not", ONE)):
            self.wrong_block((wrong,), (0,))

    def test_things_of_all_kinds(self):
        for thing in all_kinds():
            self.wrong_block((thing,), (0,))
            self.wrong_block((WEIGHT, thing), (1,))
            self.wrong_block((chosen(WEIGHT, thing),), (0, 0, 1))
            self.wrong_block((("if", ONE, (WEIGHT, WEIGHT), (thing,)),), (0, 1, 0))

    def test_heads_of_all_kinds(self):
        for thing in no_strings():
            for wrong in ((thing,), (thing, ONE), (thing, "a", ONE), (thing, ONE, (), ())):
                self.wrong_block((wrong,), (0,))

    def test_blocks_of_ifs_of_all_kinds(self):
        for thing in other_things() + [0, 1, -1]:
            self.wrong_block((("if", ONE, thing, ()),), (0,))
            self.wrong_block((("if", ONE, (), thing),), (0,))
        for thing in tuples():
            self.wrong_block((("if", ONE, thing, ()),), (0, 0, 0))
            self.wrong_block((("if", ONE, (), thing),), (0, 1, 0))


class Places(PolicyTest):
    def test_no_tuple(self):
        for thing in other_things() + [0, 1, -1, [WEIGHT], [WRONG], {0: WEIGHT}, [WEIGHT] * 61]:
            self.wrong_block(thing, ())

    def test_the_first_wrong_one(self):
        for count in (1, 2, 5, 60):
            for at in {0, 1, count // 2, count - 1} & set(range(count)):
                block = (WEIGHT,) * at + (WRONG,) + (WEIGHT,) * (count - at - 1)
                self.wrong_block(block, (at,))
                self.wrong_block(block + (WRONG, None), (at,))

    def test_within_ifs(self):
        self.wrong_block((chosen(WRONG),), (0, 0, 0))
        self.wrong_block((other_chosen(WRONG),), (0, 1, 0))
        self.wrong_block((WEIGHT, WEIGHT, chosen(WEIGHT, WEIGHT, WEIGHT, WRONG)), (2, 0, 3))
        self.wrong_block((WEIGHT, other_chosen(WEIGHT, WEIGHT, WRONG, WEIGHT)), (1, 1, 2))
        self.wrong_block((WEIGHT, chosen(WEIGHT, other_chosen(WEIGHT, WEIGHT, WRONG))), (1, 0, 1, 1, 2))
        deep = other_chosen(WEIGHT, chosen(WEIGHT, WEIGHT, other_chosen(WEIGHT, WRONG)))
        self.wrong_block((WEIGHT, WEIGHT, WEIGHT, deep), (3, 1, 1, 0, 2, 1, 1))

    def test_the_first_block_comes_ahead_of_the_second(self):
        self.wrong_block((("if", ONE, (WEIGHT, WEIGHT, WRONG), (WRONG,)),), (0, 0, 2))
        self.wrong_block((("if", ONE, (WEIGHT, chosen(WEIGHT, WRONG)), (WRONG,)),), (0, 0, 1, 0, 1))
        self.wrong_block((("if", ONE, (WEIGHT,), (WEIGHT, WRONG)),), (0, 1, 1))

    def test_what_is_within_comes_ahead_of_what_is_behind(self):
        self.wrong_block((chosen(WEIGHT, WRONG), WRONG), (0, 0, 1))
        self.wrong_block((WEIGHT, other_chosen(WEIGHT, WRONG), WRONG), (1, 1, 1))
        self.wrong_block((chosen(WEIGHT), WRONG, chosen(WRONG)), (1,))
        self.wrong_block((chosen(chosen(WEIGHT, WRONG), WRONG), WRONG), (0, 0, 0, 0, 1))

    def test_an_if_that_is_none_itself(self):
        self.wrong_block((WEIGHT, ("if", 1, (WRONG,), (WRONG,))), (1,))
        self.wrong_block((WEIGHT, ("if", nots(7), (WRONG,), ())), (1,))
        self.wrong_block((WEIGHT, ("if", ONE, (WRONG,), [])), (1,))
        self.wrong_block((WEIGHT, ("if", ONE, (WRONG,), None)), (1,))
        self.wrong_block((WEIGHT, ("if", ONE, [], (WRONG,))), (1,))
        self.wrong_block((WEIGHT, ("if", ONE, (WRONG,), (), ())), (1,))
        self.wrong_block((WEIGHT, ("if", ONE, (WRONG,))), (1,))
        self.wrong_block((chosen(WEIGHT, ("if", 1, (WRONG,), ()), WRONG),), (0, 0, 1))

    def test_four_deep(self):
        self.right_block((chosen(chosen(chosen(WEIGHT))),))
        self.right_block((other_chosen(other_chosen(other_chosen(WEIGHT))),))
        self.right_block((chosen(other_chosen(chosen())),))
        self.wrong_block((chosen(chosen(chosen(WEIGHT, WRONG))),), (0, 0, 0, 0, 0, 0, 1))

    def test_five_deep(self):
        place = (0, 0, 0, 0, 0, 0, 0)
        self.wrong_block((chosen(chosen(chosen(chosen(WEIGHT)))),), place)
        self.wrong_block((chosen(chosen(chosen(chosen(WRONG)))),), place)
        self.wrong_block((chosen(chosen(chosen(other_chosen(WEIGHT)))),), place)
        self.wrong_block((chosen(chosen(chosen(WEIGHT, chosen(WEIGHT), WRONG))),), place[:-1] + (1,))
        self.wrong_block((other_chosen(chosen(other_chosen(chosen(WEIGHT)))),), (0, 1, 0, 0, 0, 1, 0))
        self.wrong_block((WEIGHT, other_chosen(WEIGHT, chosen(chosen(chosen(chosen()))))), (1, 1, 1, 0, 0, 0, 0))

    def test_five_deep_with_empty_blocks(self):
        self.wrong_block((chosen(chosen(chosen(("if", ONE, (), ())))),), (0, 0, 0, 0, 0, 0, 0))

    def test_much_deeper(self):
        for depth in (6, 10, 19):
            self.wrong_block((nested(chosen, WEIGHT, depth),), (0, 0, 0, 0, 0, 0, 0))
            self.wrong_block((nested(other_chosen, WEIGHT, depth),), (0, 1, 0, 1, 0, 1, 0))

    def test_sixty_statements(self):
        self.right_block((WEIGHT,) * 60)
        self.right_block((chosen(*(WEIGHT,) * 59),))
        self.right_block((other_chosen(*(WEIGHT,) * 59),))
        self.right_block((("if", ONE, (WEIGHT,) * 30, (WEIGHT,) * 29),))
        self.right_block((WEIGHT,) * 10 + (chosen(WEIGHT, other_chosen(chosen(*(WEIGHT,) * 46))),))
        self.right_block((("if", ONE, (), ()),) * 60)
        self.right_block((chosen(WEIGHT),) * 30)

    def test_sixty_one_statements(self):
        self.wrong_block((WEIGHT,) * 61, ())
        self.wrong_block((chosen(*(WEIGHT,) * 60),), ())
        self.wrong_block((other_chosen(*(WEIGHT,) * 60),), ())
        self.wrong_block((("if", ONE, (WEIGHT,) * 30, (WEIGHT,) * 30),), ())
        self.wrong_block((WEIGHT,) * 10 + (chosen(WEIGHT, other_chosen(chosen(*(WEIGHT,) * 47))),), ())
        self.wrong_block((("if", ONE, (), ()),) * 61, ())
        self.wrong_block((chosen(WEIGHT),) * 30 + (WEIGHT,), ())
        self.wrong_block((WEIGHT,) * 3000, ())

    def test_wrong_ones_come_ahead_of_too_many(self):
        self.wrong_block((WEIGHT,) * 60 + (WRONG,), (60,))
        self.wrong_block((WRONG,) + (WEIGHT,) * 60, (0,))
        self.wrong_block((WEIGHT,) * 200 + (WRONG,) * 2, (200,))
        self.wrong_block((WEIGHT,) * 70 + (chosen(*(WEIGHT,) * 70, WRONG),), (70, 0, 70))

    def test_tuples_of_all_kinds(self):
        for thing in tuples():
            self.wrong_block(thing, (0,))
        for thing in deep_things():
            told = told_by(Policy, 6, thing)
            self.assertEqual(told[0], BadBlock)
            self.assertEqual(told[1] == (), type(thing) is not tuple)
        self.wrong_block(nested(lambda x: (("if", ONE, x, ()),), (), 20), (0, 0, 0, 0, 0, 0, 0))
        self.wrong_block(nested(lambda x: (("if", ONE, (), x),), (), 20), (0, 1, 0, 1, 0, 1, 0))


class Objects(PolicyTest):
    BLOCK = (("let", "a", ONE), ("if", ("fact", "need"), (("cap", ("let", "a")),), (("own", "b", ONE), WEIGHT)))

    def test_attributes(self):
        policy = Policy(6, self.BLOCK)
        self.assertIs(type(policy), Policy)
        self.assertIs(type(policy.bottom), int)
        self.assertIs(type(policy.block), tuple)
        self.assertEqual((policy.bottom, policy.block), (6, self.BLOCK))
        self.assertEqual(Policy(1, ()).block, ())

    def test_the_example_of_the_document(self):
        weight = ("weight", ("+", ("fact", "need"), ("num", 1)))
        cap = ("if", ("=", ("fact", "person"), ("num", 0)), (("cap", ("num", 2)),), ())
        policy = Policy(6, (weight, cap))
        self.assertEqual((policy.bottom, policy.block), (6, (weight, cap)))

    def equal(self, one, other):
        self.assertIs(one == other, True)
        self.assertIs(one != other, False)

    def unequal(self, one, other):
        self.assertFalse(one == other)
        self.assertTrue(one != other)
        self.assertFalse(other == one)
        self.assertTrue(other != one)

    def test_equal_policies(self):
        policy = Policy(6, self.BLOCK)
        self.equal(policy, policy)
        self.equal(policy, Policy(6, self.BLOCK))
        self.equal(policy, Policy(6, tuple(list(self.BLOCK))))
        self.equal(Policy(1, ()), Policy(1, ()))
        self.equal(Policy(6, (("weight", ("num", int("1" * 18))),)), Policy(6, (("weight", ("num", int("1" * 18))),)))

    def test_unequal_policies(self):
        policy = Policy(6, self.BLOCK)
        self.unequal(policy, Policy(7, self.BLOCK))
        self.unequal(policy, Policy(6, ()))
        self.unequal(policy, Policy(6, self.BLOCK[:1]))
        self.unequal(policy, Policy(6, self.BLOCK[::-1]))
        self.unequal(policy, Policy(6, self.BLOCK + (WEIGHT,)))
        self.unequal(Policy(6, (WEIGHT,)), Policy(6, (("cap", ONE),)))
        self.unequal(Policy(6, (WEIGHT,)), Policy(6, (("weight", ("num", 2)),)))
        self.unequal(Policy(6, (chosen(WEIGHT),)), Policy(6, (other_chosen(WEIGHT),)))
        self.unequal(Policy(6, (("let", "a", ONE),)), Policy(6, (("let", "b", ONE),)))
        self.unequal(Policy(1, ()), Policy(2, ()))

    def test_other_things_are_unequal(self):
        policy = Policy(6, self.BLOCK)
        for thing in all_kinds() + [(6, self.BLOCK), [6, self.BLOCK], self.BLOCK, 6, Policy]:
            with self.subTest(kind=type(thing).__name__):
                self.unequal(policy, thing)

    def test_nothing_is_changed(self):
        for block in ([["weight", ONE]], (["weight", ["num", 1]],), [WEIGHT], (("if", ONE, [WEIGHT], ()),), {"a": [1]}):
            ahead = snapshot(block)
            told_by(Policy, 6, block)
            told_by(Policy, block, ())
            told_by(Policy, block, block)
            self.assertEqual(block, ahead)

    def test_a_policy_never_changes(self):
        statements = [("let", "a", ONE), chosen(WEIGHT)]
        policy = Policy(6, tuple(statements))
        statements[0] = WRONG
        statements.append(WEIGHT)
        self.assertTrue(policy == Policy(6, (("let", "a", ONE), chosen(WEIGHT))))
        self.assertFalse(policy == Policy(6, ()))
        self.assertEqual((policy.bottom, policy.block), (6, (("let", "a", ONE), chosen(WEIGHT))))

    def test_policies_stand_apart(self):
        one = Policy(6, self.BLOCK)
        other = Policy(7, (WEIGHT,))
        self.assertEqual(told_by(Policy, 8, (WRONG,)), (BadBlock, (0,)))
        self.assertEqual(told_by(Policy, 0, (WEIGHT,)), (NoBottom,))
        self.assertEqual((one.bottom, one.block), (6, self.BLOCK))
        self.assertEqual((other.bottom, other.block), (7, (WEIGHT,)))

    def test_equal_calls_give_equal_answers(self):
        for block in ((WEIGHT,) * 61, (WEIGHT, chosen(WRONG)), None):
            self.assertEqual(told_by(Policy, 6, block), told_by(Policy, 6, block))


if __name__ == "__main__":
    unittest.main()
