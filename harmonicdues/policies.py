"""Policies: names, expressions, statements and blocks, as they must be built."""

from harmonicdues.basics import is_within
from harmonicdues.errors import BadBlock, NoBottom, NoPolicy
from harmonicdues.shares import is_bottom

LETTERS = "abcdefghijklmnopqrstuvwxyz"
WORDS = (
    "let", "keep", "own", "if", "else", "do", "end", "weight", "cap", "all",
    "min", "max", "mod", "and", "or", "not", "bottom",
)
FACTS = ("beat", "person", "need", "things", "people")
SIGNS = ("+", "-", "*", "/", "mod", "min", "max", "<", "=", "and", "or")
STORES = ("let", "keep", "own")

LONGEST_NAME = 8
GREATEST_NUMBER = 10 ** 18
DEEPEST_EXPRESSION = 6
MOST_PARTS = 30
DEEPEST_BLOCK = 4
MOST_STATEMENTS = 60


def is_name(thing):
    """Whether a thing is a name."""
    if not isinstance(thing, str) or not 1 <= len(thing) <= LONGEST_NAME:
        return False
    if thing in WORDS or thing in FACTS:
        return False
    return all([letter in LETTERS for letter in thing])


def has_head(thing):
    """Whether a thing is a tuple whose first item is a string, as those of expressions and statements are."""
    return isinstance(thing, tuple) and len(thing) > 0 and isinstance(thing[0], str)


def is_simple(thing):
    """Whether a thing with a head is an expression without parts of its own."""
    if len(thing) != 2:
        return False
    if thing[0] == "num":
        return is_within(thing[1], -GREATEST_NUMBER, GREATEST_NUMBER)
    if thing[0] == "fact":
        return isinstance(thing[1], str) and thing[1] in FACTS
    return thing[0] in STORES and is_name(thing[1])


def is_compound(thing):
    """Whether a thing with a head has the sign of an expression and as many parts as this sign asks for."""
    if thing[0] == "not":
        return len(thing) == 2
    return thing[0] in SIGNS and len(thing) == 3


def parts_of(thing, depth):
    """How many parts a thing has as an expression of at most this depth; 0 for what is none."""
    # The depth ends the descent, so that deeply nested things are refused and not gone through.
    if depth == 0 or not has_head(thing):
        return 0
    if is_simple(thing):
        return 1
    if not is_compound(thing):
        return 0
    counts = [parts_of(part, depth - 1) for part in thing[1:]]
    if 0 in counts:
        return 0
    return 1 + sum(counts)


def is_expression(thing):
    """Whether a thing is an expression."""
    return 1 <= parts_of(thing, DEEPEST_EXPRESSION) <= MOST_PARTS


def is_if(thing, depth):
    """Whether a thing with the head "if" is right but for what is within its blocks."""
    if depth == DEEPEST_BLOCK or len(thing) != 4:
        return False
    return is_expression(thing[1]) and isinstance(thing[2], tuple) and isinstance(thing[3], tuple)


def has_right_parts(thing, depth):
    """Whether a thing in a block of this depth is a statement but for what is within its blocks."""
    if not has_head(thing):
        return False
    if thing[0] in STORES:
        return len(thing) == 3 and is_name(thing[1]) and is_expression(thing[2])
    if thing[0] in ("weight", "cap"):
        return len(thing) == 2 and is_expression(thing[1])
    return thing[0] == "if" and is_if(thing, depth)


def blocks_of(statement):
    """The blocks that are directly within a statement: two for an if, none for another one."""
    if statement[0] == "if":
        return statement[2:]
    return ()


def place_of_wrong(block, depth):
    """The place of the first item of a block of this depth that is no statement; None if all are."""
    for at, statement in enumerate(block):
        if not has_right_parts(statement, depth):
            return (at,)
        for side, inner in enumerate(blocks_of(statement)):
            place = place_of_wrong(inner, depth + 1)
            if place is not None:
                return (at, side) + place
    return None


def statements_in(block):
    """How many statements there are in a block of right ones, those within ifs included."""
    count = len(block)
    for statement in block:
        for inner in blocks_of(statement):
            count += statements_in(inner)
    return count


def check_block(block):
    """Raise BadBlock unless this may be a policy's own block."""
    if not isinstance(block, tuple):
        raise BadBlock(())
    place = place_of_wrong(block, 1)
    if place is not None:
        raise BadBlock(place)
    if statements_in(block) > MOST_STATEMENTS:
        raise BadBlock(())


class Policy:
    """A policy that tells shares: the bottom of these, and the block that is run for each person."""

    def __init__(self, bottom, block):
        if not is_bottom(bottom):
            raise NoBottom()
        check_block(block)
        self.bottom = bottom
        self.block = block

    def __eq__(self, other):
        return isinstance(other, Policy) and self.bottom == other.bottom and self.block == other.block


def check_policy(policy):
    """Raise NoPolicy unless this is a policy."""
    if not isinstance(policy, Policy):
        raise NoPolicy()
