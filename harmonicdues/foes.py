"""Foes: shares that hang on whom a dealer's way dealt to, so that some debt becomes as great as it can."""

from harmonicdues.basics import is_fraction, is_integer, is_within
from harmonicdues.dealing import Dealer, are_deals
from harmonicdues.errors import BadWay, NoNumber
from harmonicdues.shares import MOST_BEATS, check_people, place_of_no_row


def asked(n, way, view):
    """The person that a way tells; None if it tells no one of n people."""
    person = way(view)
    return person if is_within(person, 0, n - 1) else None


def check_foe(n, beats):
    """Raise NoPeople or NoNumber unless a foe can lead n people's dealer for so many beats."""
    check_people(n)
    if not is_within(beats, 1, MOST_BEATS):
        raise NoNumber()


def first_group(n, beats):
    """The people among whom the foe deals shares at first."""
    return list(range(min(n, beats + 1)))


def group_shares(n, group):
    """Shares by which each one of a group gets as much."""
    return (len(group), tuple([1 if person in group else 0 for person in range(n)]))


def group_behind(group, person):
    """The group behind a thing that this person has got."""
    leaver = person if person in group else group[-1]
    return [other for other in group if other != leaver]


def against(n, beats, way):
    """The row that a foe makes for a way, the list of whom it deals to, who is left, and the debt of this one."""
    check_foe(n, beats)
    dealer = Dealer(n)
    group = first_group(n, beats)
    row = []
    deals = []
    while len(group) > 1:
        shares = group_shares(n, group)
        person = asked(n, way, (dealer.debts(), shares, len(row)))
        if person is None:
            raise BadWay(len(row))
        dealer.deal(shares, person)
        row.append(shares)
        deals.append(person)
        group = group_behind(group, person)
    return (tuple(row), deals, group[0], dealer.debts()[group[0]])


def is_against(n, beats, thing):
    """Whether a thing is what against tells of some way."""
    check_foe(n, beats)
    if not isinstance(thing, tuple) or len(thing) != 4:
        return False
    row, deals, person, debt = thing
    # The kinds are looked at first, since a flag is equal to a number.
    if place_of_no_row(n, 1, row) is not None or not is_integer(person) or not is_fraction(debt):
        return False
    if len(row) != len(first_group(n, beats)) - 1:
        return False
    if not are_deals(n, row, deals):
        return False
    return thing == against(n, beats, lambda view: deals[view[2]])
