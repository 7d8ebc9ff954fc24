"""A house: shares told by policies, things dealt to the greatest debt, people who leave and come."""

from harmonicdues.ahead import plan
from harmonicdues.basics import is_integer, is_less, is_within, sum_of
from harmonicdues.dealing import Dealer
from harmonicdues.errors import Full, HereAlready, LastOne, NoNumber, NotHere
from harmonicdues.shares import MOST_BEATS
from harmonicdues.tellers import Teller, check_needs

MOST_BEATS_FORESEEN = 60


def lead(teller, dealer, needs, here):
    """Lead a teller and a dealer by a beat: the pair of the shares and of who gets the thing."""
    shares = teller.shares(needs, here, dealer.things())
    return (shares, dealer.beat(shares))


def with_number(numbers, person, number):
    """The tuple of numbers in which a person has this one."""
    return numbers[:person] + (number,) + numbers[person + 1:]


def payment(payer, receiver):
    """How much one with a debt below 0 pays to one with a debt above it: the lesser of both."""
    owed = (-payer[0], payer[1])
    return owed if is_less(owed, receiver) else receiver


def payments(debts):
    """The list of the payments behind which all debts are 0."""
    left = list(debts)
    payers = [person for person, debt in enumerate(debts) if debt[0] < 0]
    receivers = [person for person, debt in enumerate(debts) if debt[0] > 0]
    told = []
    # The debts add up to 0, so payers and receivers come to an end together.
    while len(payers) > 0:
        payer, receiver = payers[0], receivers[0]
        top, bottom = payment(left[payer], left[receiver])
        told.append((payer, receiver, (top, bottom)))
        left[payer] = sum_of(left[payer], (top, bottom))
        left[receiver] = sum_of(left[receiver], (-top, bottom))
        payers = [person for person in payers if left[person][0] < 0]
        receivers = [person for person in receivers if left[person][0] > 0]
    return told


class House:
    """People some of whom are here: the policy that tells the shares, the debts, and what waits for whom."""

    def __init__(self, n, policy):
        self._teller = Teller(n, policy)
        self._dealer = Dealer(n)
        self._n = n
        self._first_policy = policy
        self._here = tuple(range(n))
        self._waiting = (0,) * n
        self._row = ()
        self._deals = []

    def beat(self, needs):
        """Tell shares and deal a thing by them; who gets it."""
        check_needs(self._n, needs)
        if len(self._row) == MOST_BEATS:
            raise Full()
        shares, person = lead(self._teller, self._dealer, needs, self._here)
        self._row = self._row + (shares,)
        self._deals.append(person)
        if person not in self._here:
            self._waiting = with_number(self._waiting, person, self._waiting[person] + 1)
        return person

    def turn(self, policy):
        """Let another policy tell the shares from the next beat on."""
        self._teller = self._teller.turned(policy)

    def leave(self, person):
        """Let a person leave."""
        if not is_integer(person) or person not in self._here:
            raise NotHere()
        if len(self._here) == 1:
            raise LastOne()
        self._here = tuple([other for other in self._here if other != person])

    def come(self, person):
        """Let a person come back; how many things waited."""
        if not is_within(person, 0, self._n - 1) or person in self._here:
            raise HereAlready()
        self._here = tuple(sorted(self._here + (person,)))
        waited = self._waiting[person]
        self._waiting = with_number(self._waiting, person, 0)
        return waited

    def debts(self):
        """Each one's debt."""
        return self._dealer.debts()

    def things(self):
        """How many things each one has got, those that wait included."""
        return self._dealer.things()

    def here(self):
        """The lot of who is here."""
        return self._here

    def waiting(self):
        """How many things wait for each one."""
        return self._waiting

    def row(self):
        """The row of all shares up to now."""
        return self._row

    def deals(self):
        """The list of who got each thing."""
        return list(self._deals)

    def foreseen(self, needs, beats):
        """The row of the shares that would come in so many beats with these needs in each."""
        check_needs(self._n, needs)
        if not is_within(beats, 1, MOST_BEATS_FORESEEN):
            raise NoNumber()
        teller, dealer = self._teller.copy(), self._dealer.copy()
        return tuple([lead(teller, dealer, needs, self._here)[0] for _ in range(beats)])

    def plan_ahead(self, needs, beats):
        """A plan for the row that is foreseen, alone."""
        return plan(self._n, 1, self.foreseen(needs, beats))

    def settle(self):
        """The list of the payments behind which all debts are 0; nobody pays by this."""
        return payments(self._dealer.debts())

    def copy(self):
        """Another house in the same state, which goes on apart."""
        other = House(self._n, self._first_policy)
        other._teller = self._teller.copy()
        other._dealer = self._dealer.copy()
        other._here = self._here
        other._waiting = self._waiting
        other._row = self._row
        other._deals = list(self._deals)
        return other
