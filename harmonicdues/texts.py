"""Fractions, rows and lots as texts."""

from harmonicdues.basics import is_fraction, is_lot, read_number
from harmonicdues.errors import BadText, NoFraction, NoLots
from harmonicdues.shares import MOST_BEATS, MOST_PEOPLE, check_row

MOST_FIGURES = 9
FIGURES_AT_ONCE = 60
AT_ONCE = 10 ** 60


def integer_text(integer):
    """An integer as a text."""
    if integer < 0:
        return "-" + integer_text(-integer)
    # Part by part, since Python refuses to write thousands of figures.
    parts = []
    while integer >= AT_ONCE:
        parts.append(str(integer % AT_ONCE).zfill(FIGURES_AT_ONCE))
        integer = integer // AT_ONCE
    parts.append(str(integer))
    return "".join(reversed(parts))


def numbers_text(numbers):
    """Numbers as a text, with commas between."""
    return ",".join([str(number) for number in numbers])


def read_numbers(text):
    """The tuple of the numbers, with commas between, that a text tells; None for none."""
    numbers = [read_number(word, MOST_FIGURES) for word in text.split(",")]
    return None if None in numbers else tuple(numbers)


def fraction_text(thing):
    """A fraction as a text."""
    if not is_fraction(thing):
        raise NoFraction()
    top, bottom = thing
    if bottom == 1:
        return integer_text(top)
    return f"{integer_text(top)}/{integer_text(bottom)}"


def row_text(n, m, row):
    """A row as a text, which read_row reads."""
    check_row(n, m, row)
    lines = [f"shares {bottom} {numbers_text(tops)}" for bottom, tops in row]
    return "\n".join([f"row {n} {m}"] + lines) + "\n"


def read_lines(text, least_lines, read_line):
    """The list of what read_line makes of each line and its number from 0 on; None is what it makes of a wrong one."""
    if not isinstance(text, str):
        raise BadText(0)
    lines = text.split("\n")
    rest = lines.pop()
    told = []
    for at, line in enumerate(lines):
        made = read_line(at, line)
        if made is None:
            raise BadText(at + 1)
        told.append(made)
    if rest != "" or len(lines) < least_lines:
        raise BadText(len(lines) + 1)
    return told


def read_line_of_row(at, line):
    """The pair of the numbers of people and of things, or else shares, that a line tells; None for none."""
    words = line.split(" ")
    if len(words) != 3 or words[0] != ("row" if at == 0 else "shares"):
        return None
    first = read_number(words[1], MOST_FIGURES)
    second = read_number(words[2], MOST_FIGURES) if at == 0 else read_numbers(words[2])
    return None if first is None or second is None else (first, second)


def read_row(text):
    """The triple of the number of people, the number of things and the row that a text tells."""
    told = read_lines(text, 1, read_line_of_row)
    n, m = told[0]
    row = tuple(told[1:])
    check_row(n, m, row)
    return (n, m, row)


def check_lots(lots):
    """Raise NoLots unless these are lots."""
    if not isinstance(lots, tuple) or len(lots) > MOST_BEATS:
        raise NoLots()
    if not all([is_lot(lot, MOST_PEOPLE) for lot in lots]):
        raise NoLots()


def line_of_lot(lot):
    """A lot as a line."""
    return "-\n" if len(lot) == 0 else numbers_text(lot) + "\n"


def lots_text(lots):
    """Lots as a text, which read_lots reads."""
    check_lots(lots)
    return "".join([line_of_lot(lot) for lot in lots])


def read_line_of_lots(_, line):
    """The tuple of numbers that a line tells; None for none."""
    return () if line == "-" else read_numbers(line)


def read_lots(text):
    """The lots that a text tells."""
    lots = tuple(read_lines(text, 0, read_line_of_lots))
    check_lots(lots)
    return lots
