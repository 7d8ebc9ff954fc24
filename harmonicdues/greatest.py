"""The greatest debts together: their bounds, and how a beat changes them."""

from math import lcm

from harmonicdues.basics import harmonic, in_lowest_terms, is_fraction, is_less, is_within, sum_of
from harmonicdues.dealing import check_beats, due_one, fallen, least
from harmonicdues.errors import NoDebts, NoNumber
from harmonicdues.shares import check_people, check_shares, grown_by


def together(debts):
    """The sum of debts."""
    total = (0, 1)
    for debt in debts:
        total = sum_of(total, debt)
    return total


def are_debts(n, thing):
    """Whether a thing is debts of n people."""
    if not isinstance(thing, tuple) or len(thing) != n:
        return False
    return all([is_fraction(debt) for debt in thing]) and together(thing) == (0, 1)


def check_debts(n, debts):
    """Raise NoDebts unless these are debts of n people."""
    if not are_debts(n, debts):
        raise NoDebts()


def check_many(n, many):
    """Raise NoNumber unless this is a number of people from 1 to n."""
    if not is_within(many, 1, n):
        raise NoNumber()


def tops_of(debts):
    """The tops of debts that are all brought to one bottom."""
    bottom_of_all = 1
    for _, bottom in debts:
        bottom_of_all = lcm(bottom_of_all, bottom)
    return [top * (bottom_of_all // bottom) for top, bottom in debts]


def greatest_of(debts, many):
    """The pair of the sum of the so many greatest of debts and the lot of who has them."""
    tops = tops_of(debts)
    # The sort leaves people with debts alike as they stand, so the lesser number comes first.
    people = sorted(range(len(debts)), key=lambda person: -tops[person])
    lot = tuple(sorted(people[:many]))
    return (together([debts[person] for person in lot]), lot)


def allowed_for(n, beats, many):
    """What the so many greatest debts may have together behind so many beats."""
    top, bottom = harmonic(many + 1, min(n, many + beats))
    return in_lowest_terms(many * top, bottom)


def breach_of(n, beats, debts):
    """By what debts are not calm behind so many beats, as breach tells it."""
    for many in range(1, n + 1):
        total, lot = greatest_of(debts, many)
        if is_less(allowed_for(n, beats, many), total):
            return ("many", many, lot)
    # Nothing comes of this: all but one have too much already as soon as this one is below least(n).
    for person, debt in enumerate(debts):
        if is_less(debt, least(n)):
            return ("low", person, debt)
    return None


def greatest(n, debts, many):
    """The pair of the sum of the so many greatest debts and the lot of who has them."""
    check_people(n)
    check_debts(n, debts)
    check_many(n, many)
    return greatest_of(debts, many)


def allowed(n, beats, many):
    """The fraction that the so many greatest of calm debts have at most together behind so many beats."""
    check_people(n)
    check_beats(beats)
    check_many(n, many)
    return allowed_for(n, beats, many)


def is_calm(n, beats, thing):
    """Whether a thing is debts that are calm behind so many beats."""
    check_people(n)
    check_beats(beats)
    return are_debts(n, thing) and breach_of(n, beats, thing) is None


def breach(n, beats, debts):
    """None for debts that are calm behind so many beats, else the first of what they are beyond."""
    check_people(n)
    check_beats(beats)
    check_debts(n, debts)
    return breach_of(n, beats, debts)


def step(n, debts, shares):
    """The pair of who gets the thing when such shares come, and the debts behind."""
    check_people(n)
    check_debts(n, debts)
    check_shares(n, shares)
    grown = grown_by(debts, shares)
    person = due_one(grown)
    return (person, fallen(grown, person))


def reasons(n, debts, shares):
    """The list, for each many, of the reason why so many have not too much behind the step."""
    person, behind = step(n, debts, shares)
    lots = [greatest_of(behind, many)[1] for many in range(1, n + 1)]
    return [("in" if person in lot else "out", lot) for lot in lots]
