"""Small games that are gone through whole: how far a dealer can keep the greatest debt down."""

from math import comb, lcm

from harmonicdues.basics import in_lowest_terms, is_within
from harmonicdues.errors import NoGame, NoNumber, NoShares, TooMany
from harmonicdues.greatest import check_debts
from harmonicdues.shares import check_shares

MOST_PEOPLE_OF_GAME = 4
MOST_BOTTOM_OF_GAME = 12
MOST_BEATS_OF_GAME = 6
MOST_ROWS = 20000


def check_game(n, bottom, beats):
    """Raise NoGame unless this is a game."""
    if not is_within(n, 1, MOST_PEOPLE_OF_GAME):
        raise NoGame("people")
    if not is_within(bottom, 1, MOST_BOTTOM_OF_GAME):
        raise NoGame("bottom")
    if not is_within(beats, 0, MOST_BEATS_OF_GAME):
        raise NoGame("beats")


def check_first_beat(beats):
    """Raise NoNumber if a game has no beat."""
    if beats == 0:
        raise NoNumber()


def check_rows(n, bottom, beats):
    """Raise TooMany if there are more rows of shares than are gone through."""
    rows = 1
    for _ in range(beats):
        rows *= comb(bottom + n - 1, n - 1)
    if rows > MOST_ROWS:
        raise TooMany(MOST_ROWS)


def all_tops(n, bottom):
    """The ascending list of the tuples of n numbers that add up to the bottom."""
    if n == 1:
        return [(bottom,)]
    return [(top,) + rest for top in range(bottom + 1) for rest in all_tops(n - 1, bottom - top)]


class Game:
    """A game from debts on, all debts and shares being brought to one bottom, the unit."""

    def __init__(self, n, bottom, debts):
        unit = bottom
        for _, part in debts:
            unit = lcm(unit, part)
        self.unit = unit
        self.start = tuple([top * (unit // part) for top, part in debts])
        self.bottom = bottom
        self.tops = all_tops(n, bottom)
        self._known = {}

    def behind(self, debts, tops):
        """The list, for each one whom the thing can be dealt to, of the debts behind a beat."""
        part = self.unit // self.bottom
        grown = tuple([debt + top * part for debt, top in zip(debts, tops)])
        return [
            grown[:person] + (debt - self.unit,) + grown[person + 1:]
            for person, debt in enumerate(grown)
        ]

    def worth_of_deals(self, debts, tops, beats):
        """The list, for each one whom the thing can be dealt to, of the worth if these tops come first."""
        return [self.worth_from(behind, beats - 1) for behind in self.behind(debts, tops)]

    def worth_from(self, debts, beats):
        """The worth from these debts on."""
        # The greatest debt behind the last beat is enough to look at: as long as each beat gives a whole
        # thing to who has the greatest debt, this debt never falls.
        if beats == 0:
            return max(debts)
        # The worth is the same whoever has which debt.
        place = (beats, tuple(sorted(debts)))
        if place not in self._known:
            self._known[place] = max([min(self.worth_of_deals(debts, tops, beats)) for tops in self.tops])
        return self._known[place]


def worth(n, bottom, beats, debts):
    """The least fraction that some dealer keeps all debts at or below, behind each beat to come."""
    check_game(n, bottom, beats)
    check_debts(n, debts)
    check_rows(n, bottom, beats)
    game = Game(n, bottom, debts)
    return in_lowest_terms(game.worth_from(game.start, beats), game.unit)


def good_deals(n, bottom, beats, debts, shares):
    """The lot of the people to whom the thing of the first beat can be dealt so that the worth is kept."""
    check_game(n, bottom, beats)
    check_first_beat(beats)
    check_debts(n, debts)
    check_shares(n, shares)
    if shares[0] != bottom:
        raise NoShares()
    check_rows(n, bottom, beats)
    game = Game(n, bottom, debts)
    bound = game.worth_from(game.start, beats)
    worths = game.worth_of_deals(game.start, shares[1], beats)
    return tuple([person for person in range(n) if worths[person] <= bound])


def worst_shares(n, bottom, beats, debts):
    """The ascending list of the shares that can come first so that no dealer does better than the worth."""
    check_game(n, bottom, beats)
    check_first_beat(beats)
    check_debts(n, debts)
    check_rows(n, bottom, beats)
    game = Game(n, bottom, debts)
    bound = game.worth_from(game.start, beats)
    return [(bottom, tops) for tops in game.tops if min(game.worth_of_deals(game.start, tops, beats)) == bound]
