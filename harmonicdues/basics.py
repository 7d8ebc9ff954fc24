"""The helper of the package: kinds of integers, lots, fractions, and numbers as texts."""

from math import gcd

FIGURES = "0123456789"


def is_integer(thing):
    """Whether a thing is an integer; a flag is none."""
    return isinstance(thing, int) and not isinstance(thing, bool)


def is_within(thing, low, high):
    """Whether a thing is an integer from low to high."""
    return is_integer(thing) and low <= thing <= high


def are_numbers(thing, many, most):
    """Whether a thing is a tuple of so many numbers, each at most the most."""
    if not isinstance(thing, tuple) or len(thing) != many:
        return False
    return all([is_within(number, 0, most) for number in thing])


def is_lot(thing, bound):
    """Whether a thing is a lot of numbers below a bound."""
    if not isinstance(thing, tuple):
        return False
    least_next = 0
    for number in thing:
        if not is_within(number, least_next, bound - 1):
            return False
        least_next = number + 1
    return True


def is_fraction(thing):
    """Whether a thing is a fraction, which is in lowest terms."""
    if not isinstance(thing, tuple) or len(thing) != 2:
        return False
    top, bottom = thing
    return is_integer(top) and is_integer(bottom) and bottom > 0 and gcd(top, bottom) == 1


def in_lowest_terms(top, bottom):
    """The fraction top / bottom, bottom being above 0."""
    common = gcd(top, bottom)
    return (top // common, bottom // common)


def sum_of(one, other):
    """The sum of two fractions."""
    top = one[0] * other[1] + other[0] * one[1]
    return in_lowest_terms(top, one[1] * other[1])


def is_less(one, other):
    """Whether a fraction is worth less than another one."""
    return one[0] * other[1] < other[0] * one[1]


def rounded_down(fraction):
    """The greatest integer that is not above a fraction."""
    return fraction[0] // fraction[1]


def rounded_up(fraction):
    """The least integer that is not below a fraction."""
    return -(-fraction[0] // fraction[1])


def harmonic(low, high):
    """The fraction 1/low + .. + 1/high, 0 if low is above high."""
    total = (0, 1)
    for bottom in range(low, high + 1):
        total = sum_of(total, (1, bottom))
    return total


def read_number(word, most_figures):
    """The number of so many figures at most, without needless zeros, that a word tells; None for none."""
    # Counted first, since Python refuses to read thousands of figures.
    if not 1 <= len(word) <= most_figures or not all([figure in FIGURES for figure in word]):
        return None
    if word[0] == "0" and word != "0":
        return None
    return int(word)
