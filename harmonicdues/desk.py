"""A desk, which leads a house by lines."""

from harmonicdues.basics import read_number
from harmonicdues.dealing import most
from harmonicdues.errors import DuesError, NoLine, NoLines
from harmonicdues.house import House
from harmonicdues.policytexts import policy_text, read_policy
from harmonicdues.texts import MOST_FIGURES, fraction_text, numbers_text, read_numbers, row_text


def words_text(words):
    """Words with blanks between, "none" for none."""
    return "none" if len(words) == 0 else " ".join(words)


def people_text(people):
    """Numbers with blanks between, "none" for none."""
    return words_text([str(person) for person in people])


def shares_text(shares):
    """Shares as a word."""
    bottom, tops = shares
    return f"{bottom}:{numbers_text(tops)}"


def number_in(text):
    """The number that a text tells."""
    number = read_number(text, MOST_FIGURES)
    if number is None:
        raise NoLine()
    return number


def needs_in(text):
    """The needs that a text tells."""
    needs = read_numbers(text)
    if needs is None:
        raise NoLine()
    return needs


def ahead_in(text):
    """The pair of the needs and the number of beats that a text tells."""
    number, _, needs = text.partition(" ")
    return (needs_in(needs), number_in(number))


def tell_here(house):
    """Who is here."""
    return people_text(house.here())


def tell_waiting(house):
    """How many things wait for each one."""
    return people_text(house.waiting())


def tell_things(house):
    """How many things each one has got."""
    return people_text(house.things())


def tell_deals(house):
    """Who got each thing."""
    return people_text(house.deals())


def tell_beats(house):
    """How many beats there were."""
    return str(len(house.row()))


def tell_debts(house):
    """Each one's debt."""
    return words_text([fraction_text(debt) for debt in house.debts()])


def tell_most(house):
    """What no debt is above."""
    return fraction_text(most(len(house.debts()), len(house.row())))


def tell_shares(house):
    """The shares of the last beat."""
    return words_text([shares_text(shares) for shares in house.row()[-1:]])


def tell_settle(house):
    """The payments behind which all debts are 0."""
    return words_text([f"{payer}>{receiver}:{fraction_text(paid)}" for payer, receiver, paid in house.settle()])


def tell_row(house):
    """All shares up to now."""
    return row_text(len(house.debts()), 1, house.row())


def do_beat(house, text):
    """A beat; who gets the thing."""
    return str(house.beat(needs_in(text)))


def do_leave(house, text):
    """Let a person leave."""
    house.leave(number_in(text))
    return "ok"


def do_come(house, text):
    """Let a person come; how many things waited."""
    return str(house.come(number_in(text)))


def do_foreseen(house, text):
    """The shares that are foreseen."""
    needs, beats = ahead_in(text)
    return words_text([shares_text(shares) for shares in house.foreseen(needs, beats)])


def do_plan(house, text):
    """Who gets the thing in each beat of a plan for what is foreseen."""
    needs, beats = ahead_in(text)
    return people_text([lot[0] for lot in house.plan_ahead(needs, beats)])


# What is told for a line of one word, and for one whose first word has something behind its blank.
OF_ONE_WORD = {
    "here": tell_here, "waiting": tell_waiting, "things": tell_things, "deals": tell_deals, "beats": tell_beats,
    "debts": tell_debts, "most": tell_most, "shares": tell_shares, "settle": tell_settle, "row": tell_row,
}
OF_MORE_WORDS = {
    "beat": do_beat, "leave": do_leave, "come": do_come, "foreseen": do_foreseen, "plan": do_plan,
}


class Desk:
    """A desk: a house, and the newest policy."""

    def __init__(self, n, policy):
        self._house = House(n, policy)
        self._policy = policy

    def _turn(self, text):
        """Turn the house to the policy of a text."""
        try:
            policy = read_policy(text)
        except DuesError:
            raise NoLine() from None
        self._house.turn(policy)
        self._policy = policy
        return "ok"

    def tell(self, line):
        """Do what a line says; what it tells."""
        if not isinstance(line, str):
            raise NoLine()
        if line == "policy":
            return policy_text(self._policy)
        if line in OF_ONE_WORD:
            telling = OF_ONE_WORD[line]
            return telling(self._house)
        word, _, text = line.partition(" ")
        if word == "turn":
            return self._turn(text)
        if word not in OF_MORE_WORDS:
            raise NoLine()
        doing = OF_MORE_WORDS[word]
        return doing(self._house, text)


def told_or_raised(desk, line):
    """What a desk tells to a line, or the name of the class of the error that it raises."""
    try:
        return desk.tell(line)
    except DuesError as error:
        return "(" + error.__class__.__name__ + ")"


def tale(n, policy, lines):
    """The list of what a new desk tells to lines."""
    desk = Desk(n, policy)
    if not isinstance(lines, (list, tuple)):
        raise NoLines()
    return [told_or_raised(desk, line) for line in lines]
