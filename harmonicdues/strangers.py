"""Strangers' ways, planners and accounts, judged."""

from harmonicdues.ahead import fits_plan, place_astray
from harmonicdues.basics import is_fraction, is_less
from harmonicdues.dealing import Dealer, are_deals, dealt, debts_behind, due_one, least, most
from harmonicdues.foes import asked
from harmonicdues.greatest import are_debts
from harmonicdues.shares import check_row, grown_by


def place_above(n, behind):
    """The first beat behind which a debt is above most, and the least such person; None if none is."""
    for beat, debts in enumerate(behind):
        bound = most(n, beat + 1)
        for person, debt in enumerate(debts):
            if is_less(bound, debt):
                return (beat, person)
    return None


def place_below(n, behind):
    """The first beat behind which a debt is below least, and the least such person; None if none is."""
    bound = least(n)
    for beat, debts in enumerate(behind):
        for person, debt in enumerate(debts):
            if is_less(debt, bound):
                return (beat, person)
    return None


def led(n, row, way):
    """What comes of a way that is led by a row."""
    check_row(n, 1, row)
    dealer = Dealer(n)
    deals = []
    for beat, shares in enumerate(row):
        person = asked(n, way, (dealer.debts(), shares, beat))
        if person is None:
            return ("wrong", beat)
        dealer.deal(shares, person)
        deals.append(person)
    behind = debts_behind(n, row, deals)
    above, below = place_above(n, behind), place_below(n, behind)
    if above is not None:
        return ("above",) + above
    if below is not None:
        return ("below",) + below
    return ("kept", tuple(deals))


def lightest_way(view):
    """A way that keeps the debts of every row within the bounds: to the greatest debt."""
    debts, shares, _ = view
    return due_one(grown_by(debts, shares))


def planned(n, m, row, planner):
    """What comes of a planner that is asked for a plan for a row."""
    check_row(n, m, row)
    lots = planner(n, m, row)
    if not fits_plan(n, m, row, lots):
        return ("wrong",)
    place = place_astray(n, row, lots)
    return ("kept", lots) if place is None else ("astray",) + place


def greatest_behind(behind):
    """The greatest debt behind any beat, 0 without any."""
    # Debts add up to 0, so the greatest of them is never below it.
    greatest = (0, 1)
    for debts in behind:
        for debt in debts:
            if is_less(greatest, debt):
                greatest = debt
    return greatest


def account_of(n, row):
    """The account of a row that is dealt to the greatest debt."""
    deals = dealt(n, row)
    behind = debts_behind(n, row, deals)
    return {"deals": deals, "debts": behind, "greatest": greatest_behind(behind)}


def are_debts_behind(n, row, deals, thing):
    """Whether a thing is the list of the debts behind each beat, all within the bounds."""
    # The kinds are looked at first, since a flag is equal to a number.
    if not isinstance(thing, list) or not all([are_debts(n, debts) for debts in thing]):
        return False
    if thing != debts_behind(n, row, deals):
        return False
    return place_above(n, thing) is None and place_below(n, thing) is None


def is_right_account(n, row, thing):
    """Whether a thing is an account of a row, whoever the things are dealt to within the bounds."""
    check_row(n, 1, row)
    if not isinstance(thing, dict):
        return False
    deals, behind, greatest = thing.get("deals"), thing.get("debts"), thing.get("greatest")
    if not isinstance(deals, list) or not are_deals(n, row, deals):
        return False
    if not are_debts_behind(n, row, deals, behind):
        return False
    return is_fraction(greatest) and greatest == greatest_behind(behind)
