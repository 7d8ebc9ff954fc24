"""The errors of the program."""


class DuesError(ValueError):
    """What all errors of this package are."""


# Each class has an __init__ of its own, since an error is made with just its fields.
class NoPeople(DuesError):
    """The number of people is no integer from 1 to 12."""

    def __init__(self):
        pass


class NoThings(DuesError):
    """The number of things is no integer from 1 to the number of people."""

    def __init__(self):
        pass


class NoRow(DuesError):
    """No row: -1 for no tuple or a longer one, else the number of the first item that is no shares."""

    def __init__(self, at):
        self.at = at


class NoShares(DuesError):
    """No shares of these people."""

    def __init__(self):
        pass


class NoPerson(DuesError):
    """No number of a person."""

    def __init__(self):
        pass


class NoDeals(DuesError):
    """No deals for the row."""

    def __init__(self):
        pass


class NoNumber(DuesError):
    """No number of the kind that is asked for."""

    def __init__(self):
        pass


class NoDebts(DuesError):
    """No debts of these people."""

    def __init__(self):
        pass


class NoPlan(DuesError):
    """No plan for the row."""

    def __init__(self):
        pass


class NoRefusals(DuesError):
    """No refusals for the row."""

    def __init__(self):
        pass


class TooMany(DuesError):
    """More than the most that is let."""

    def __init__(self, most):
        self.most = most


class NoBottom(DuesError):
    """The bottom is no integer from 1 to 360."""

    def __init__(self):
        pass


class BadBlock(DuesError):
    """No block of a policy: the place of the first statement that is none, () for the block itself."""

    def __init__(self, place):
        self.place = place


class NoPolicy(DuesError):
    """No policy."""

    def __init__(self):
        pass


class NoNeeds(DuesError):
    """No needs of these people."""

    def __init__(self):
        pass


class NoLot(DuesError):
    """No lot of people, or an empty one."""

    def __init__(self):
        pass


class NoNumbers(DuesError):
    """No numbers of these people."""

    def __init__(self):
        pass


class BadText(DuesError):
    """The first line that has not the form it should have, counted from 1, or 0 for no string."""

    def __init__(self, line):
        self.line = line


class BadWay(DuesError):
    """The first beat in which a dealer's way tells no person."""

    def __init__(self, beat):
        self.beat = beat


class NoGame(DuesError):
    """The part of a game that is beyond its limits."""

    def __init__(self, part):
        self.part = part


class NotHere(DuesError):
    """No number of a person who is here."""

    def __init__(self):
        pass


class LastOne(DuesError):
    """Nobody would be left."""

    def __init__(self):
        pass


class HereAlready(DuesError):
    """No number of a person who is away."""

    def __init__(self):
        pass


class Full(DuesError):
    """No beat is left."""

    def __init__(self):
        pass


class NoFraction(DuesError):
    """No fraction."""

    def __init__(self):
        pass


class NoLots(DuesError):
    """No tuple of lots."""

    def __init__(self):
        pass


class NoLine(DuesError):
    """No line that a desk takes."""

    def __init__(self):
        pass


class NoLines(DuesError):
    """No list or tuple of lines."""

    def __init__(self):
        pass
