"""Policies as texts."""

from harmonicdues.basics import read_number
from harmonicdues.errors import BadText
from harmonicdues.policies import FACTS, SIGNS, STORES, Policy, check_policy, has_right_parts

# As many as 10 ** 18 has.
MOST_FIGURES = 19
MOST_FIGURES_OF_BOTTOM = 3


def expression_text(expression):
    """An expression as a text."""
    head = expression[0]
    if head == "num":
        return str(expression[1])
    if head in ("fact", "let"):
        return expression[1]
    if head == "keep":
        return "all:" + expression[1]
    if head == "own":
        return "own:" + expression[1]
    if head == "not":
        return f"(not {expression_text(expression[1])})"
    return f"({expression_text(expression[1])} {head} {expression_text(expression[2])})"


def lines_of_if(statement):
    """The lines of an if, with all that is in its blocks."""
    first, other = lines_of(statement[2]), lines_of(statement[3])
    if len(other) > 0:
        other = ["else"] + other
    return [f"if {expression_text(statement[1])} do"] + first + other + ["end"]


def lines_of_statement(statement):
    """The lines of a statement."""
    head = statement[0]
    if head == "if":
        return lines_of_if(statement)
    if head in STORES:
        return [f"{head} {statement[1]} {expression_text(statement[2])}"]
    return [f"{head} {expression_text(statement[1])}"]


def lines_of(block):
    """The lines of a block."""
    lines = []
    for statement in block:
        lines.extend(lines_of_statement(statement))
    return lines


def policy_text(policy):
    """A policy as a text, which read_policy reads."""
    check_policy(policy)
    lines = [f"bottom {policy.bottom}"] + lines_of(policy.block)
    return "\n".join(lines) + "\n"


def read_integer(word):
    """The integer of an expression that a word tells; None for none."""
    if not word.startswith("-"):
        return read_number(word, MOST_FIGURES)
    number = read_number(word.removeprefix("-"), MOST_FIGURES)
    # A sign stands ahead of numbers below 0 alone.
    return None if number in (None, 0) else -number


def read_word(word):
    """A bracket or a sign as it is, else the expression that a word tells, which may be none."""
    if word in ("(", "not") or word in SIGNS:
        return word
    if word in FACTS:
        return ("fact", word)
    if word.startswith("all:"):
        return ("keep", word.removeprefix("all:"))
    if word.startswith("own:"):
        return ("own", word.removeprefix("own:"))
    number = read_integer(word)
    return ("let", word) if number is None else ("num", number)


def close_bracket(stack):
    """Put what stands behind the last bracket together; whether it is as much as brackets hold."""
    if len(stack) > 2 and stack[-3] == "(":
        stack[-3:] = [(stack[-2], stack[-1])]
        return True
    if len(stack) > 3 and stack[-4] == "(":
        stack[-4:] = [(stack[-2], stack[-3], stack[-1])]
        return True
    return False


def read_expression(text):
    """What a text tells as an expression: something that is none for a text of none."""
    # A stack, and not a descent, since there may be thousands of brackets.
    stack = []
    for word in text.replace("(", "( ").replace(")", " )").split(" "):
        if word != ")":
            stack.append(read_word(word))
        elif not close_bracket(stack):
            return None
    return stack[0] if len(stack) == 1 else None


def read_statement(line):
    """The statement that a line tells, an if with empty blocks; None for none."""
    head, _, rest = line.partition(" ")
    if head in STORES:
        name, _, rest = rest.partition(" ")
        statement = (head, name, read_expression(rest))
    elif head in ("weight", "cap"):
        statement = (head, read_expression(rest))
    elif head == "if" and rest.endswith(" do"):
        statement = (head, read_expression(rest.removesuffix(" do")), (), ())
    else:
        return None
    # Whatever is none makes what it stands in none, so it is enough to look at the whole.
    return statement if has_right_parts(statement, 1) else None


# The blocks that are open stand in a list, the policy's own first: each is a triple of the expression
# of its if, the first block if it is the second one, else None, and the list of its statements.


def take_else(opened):
    """Go on with the second block of an if; whether there is a first one that is open."""
    expression, first, statements = opened[-1]
    if expression is None or first is not None:
        return False
    opened[-1] = (expression, tuple(statements), [])
    return True


def take_end(opened):
    """Close an if; whether one is open."""
    expression, first, statements = opened[-1]
    if expression is None:
        return False
    blocks = (tuple(statements), ()) if first is None else (first, tuple(statements))
    opened.pop()
    opened[-1][2].append(("if", expression) + blocks)
    return True


def take_line(opened, line):
    """Go on with a line; whether it has the form of one that can stand there."""
    if line == "else":
        return take_else(opened)
    if line == "end":
        return take_end(opened)
    statement = read_statement(line)
    if statement is None:
        return False
    if statement[0] == "if":
        opened.append((statement[1], None, []))
    else:
        opened[-1][2].append(statement)
    return True


def read_bottom(line):
    """The bottom that a line tells; None for none."""
    if not line.startswith("bottom "):
        return None
    return read_number(line.removeprefix("bottom "), MOST_FIGURES_OF_BOTTOM)


def read_policy(text):
    """The policy that a text tells, as policy_text writes it."""
    if not isinstance(text, str):
        raise BadText(0)
    lines = text.split("\n")
    rest = lines.pop()
    opened = [(None, None, [])]
    for at, line in enumerate(lines):
        fits = take_line(opened, line) if at > 0 else read_bottom(line) is not None
        if not fits:
            raise BadText(at + 1)
    if rest != "" or len(opened) > 1 or len(lines) == 0:
        raise BadText(len(lines) + 1)
    return Policy(read_bottom(lines[0]), tuple(opened[0][2]))
