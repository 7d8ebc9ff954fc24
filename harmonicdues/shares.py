"""People, shares of things, and rows of shares."""

from harmonicdues.basics import are_numbers, is_within, sum_of
from harmonicdues.errors import NoPeople, NoPerson, NoRow, NoShares, NoThings

MOST_PEOPLE = 12
MOST_BOTTOM = 360
MOST_BEATS = 400


def is_bottom(thing):
    """Whether a thing is an integer that may be the bottom of shares."""
    return is_within(thing, 1, MOST_BOTTOM)


def check_people(n):
    """Raise NoPeople unless there may be n people."""
    if not is_within(n, 1, MOST_PEOPLE):
        raise NoPeople()


def check_things(n, m):
    """Raise NoPeople or NoThings unless n people may get shares of m things."""
    check_people(n)
    if not is_within(m, 1, n):
        raise NoThings()


def check_person(n, person):
    """Raise NoPerson unless this is the number of one of n people."""
    if not is_within(person, 0, n - 1):
        raise NoPerson()


def fits_shares(n, m, thing):
    """Whether a thing is shares of m things for n people, which have been checked."""
    if not isinstance(thing, tuple) or len(thing) != 2:
        return False
    bottom, tops = thing
    return is_bottom(bottom) and are_numbers(tops, n, bottom) and sum(tops) == m * bottom


def is_shares(n, m, thing):
    """Whether a thing is shares of m things for n people."""
    check_things(n, m)
    return fits_shares(n, m, thing)


def check_shares(n, shares):
    """Raise NoShares unless these are shares of one thing for n people."""
    if not fits_shares(n, 1, shares):
        raise NoShares()


def place_of_no_row(n, m, thing):
    """Where a thing is no row, as NoRow tells it; None for a row."""
    if not isinstance(thing, tuple) or len(thing) > MOST_BEATS:
        return -1
    for at, shares in enumerate(thing):
        if not fits_shares(n, m, shares):
            return at
    return None


def is_row(n, m, thing):
    """Whether a thing is a row of shares of m things for n people."""
    check_things(n, m)
    return place_of_no_row(n, m, thing) is None


def check_row(n, m, row):
    """Raise NoPeople, NoThings or NoRow unless this is a row of shares of m things for n people."""
    check_things(n, m)
    at = place_of_no_row(n, m, row)
    if at is not None:
        raise NoRow(at)


def grown_by(sums, shares):
    """The fractions that people have who had these sums and get these shares."""
    bottom, tops = shares
    return tuple([sum_of(had, (top, bottom)) for had, top in zip(sums, tops)])


def sums_behind(n, row):
    """The list, beat by beat, of the tuples of what each one has got in all behind it, of a checked row."""
    sums = ((0, 1),) * n
    behind = []
    for shares in row:
        sums = grown_by(sums, shares)
        behind.append(sums)
    return behind


def got_by(n, m, row):
    """The list, beat by beat, of the tuples of what each one has got in all behind it."""
    check_row(n, m, row)
    return sums_behind(n, row)


def got(n, m, row):
    """The tuple of the fractions that each one gets in all."""
    behind = got_by(n, m, row)
    if len(behind) == 0:
        return ((0, 1),) * n
    return behind[-1]
