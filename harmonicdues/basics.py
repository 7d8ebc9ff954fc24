"""The helper of the package: kinds of integers, and fractions."""

from math import gcd


def is_integer(thing):
    """Whether a thing is an integer; a flag is none."""
    return isinstance(thing, int) and not isinstance(thing, bool)


def is_within(thing, low, high):
    """Whether a thing is an integer from low to high."""
    return is_integer(thing) and low <= thing <= high


def in_lowest_terms(top, bottom):
    """The fraction top / bottom, bottom being above 0."""
    common = gcd(top, bottom)
    return (top // common, bottom // common)


def sum_of(one, other):
    """The sum of two fractions."""
    top = one[0] * other[1] + other[0] * one[1]
    return in_lowest_terms(top, one[1] * other[1])
