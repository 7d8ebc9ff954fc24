"""Dealing to the greatest debt, and the bounds within which the debts stay."""

from harmonicdues.basics import harmonic, in_lowest_terms, is_less, is_within, sum_of
from harmonicdues.errors import NoDeals, NoNumber
from harmonicdues.shares import check_people, check_person, check_row, check_shares, grown_by

MOST_NUMBER = 10 ** 9


def due_one(debts):
    """The least person with the greatest debt."""
    due = 0
    for person, debt in enumerate(debts):
        if is_less(debts[due], debt):
            due = person
    return due


def fallen(debts, person):
    """The debts behind a thing that this person has got."""
    return debts[:person] + (sum_of(debts[person], (-1, 1)),) + debts[person + 1:]


class Dealer:
    """One who deals a thing a beat: the debts, and how many things each one has got."""

    def __init__(self, n):
        check_people(n)
        self._n = n
        self._debts = ((0, 1),) * n
        self._things = (0,) * n

    def beat(self, shares):
        """Deal a thing to the least person with the greatest debt; who gets it."""
        check_shares(self._n, shares)
        person = due_one(grown_by(self._debts, shares))
        self.deal(shares, person)
        return person

    def deal(self, shares, person):
        """Deal a thing to a person."""
        check_shares(self._n, shares)
        check_person(self._n, person)
        self._debts = fallen(grown_by(self._debts, shares), person)
        self._things = self._things[:person] + (self._things[person] + 1,) + self._things[person + 1:]

    def debts(self):
        """Each one's debt."""
        return self._debts

    def things(self):
        """How many things each one has got."""
        return self._things

    def beats(self):
        """How many beats there were."""
        return sum(self._things)

    def copy(self):
        """Another dealer in the same state, which goes on apart."""
        other = Dealer(self._n)
        other._debts = self._debts
        other._things = self._things
        return other


def dealt(n, row):
    """The list of who gets the thing of each beat of a row, dealt to the greatest debt."""
    check_row(n, 1, row)
    dealer = Dealer(n)
    return [dealer.beat(shares) for shares in row]


def are_deals(n, row, thing):
    """Whether a thing is deals for a row."""
    if not isinstance(thing, (tuple, list)) or len(thing) != len(row):
        return False
    return all([is_within(person, 0, n - 1) for person in thing])


def debts_behind(n, row, deals):
    """The list, beat by beat, of the debts behind it when the things of a row are dealt so."""
    check_row(n, 1, row)
    if not are_deals(n, row, deals):
        raise NoDeals()
    dealer = Dealer(n)
    behind = []
    for shares, person in zip(row, deals):
        dealer.deal(shares, person)
        behind.append(dealer.debts())
    return behind


def check_beats(beats):
    """Raise NoNumber unless this is a number of beats for which there is a bound."""
    if not is_within(beats, 0, MOST_NUMBER):
        raise NoNumber()


def most(n, beats):
    """The fraction that no debt is above behind so many beats dealt to the greatest debt."""
    check_people(n)
    check_beats(beats)
    return harmonic(2, min(n, beats + 1))


def least(n):
    """The fraction that no debt is below behind any beats dealt to the greatest debt."""
    check_people(n)
    return in_lowest_terms(1 - n, n)
