"""Tellers: policies that are run beat by beat and tell shares."""

from math import lcm

from harmonicdues.basics import are_numbers, is_lot
from harmonicdues.errors import NoLot, NoNeeds, NoNumbers
from harmonicdues.policies import GREATEST_NUMBER, STORES, check_policy
from harmonicdues.shares import check_people, check_person

MOST_NEED = 10 ** 9


class Run:
    """The run of a block for one person: what it can read, and what it has told so far."""

    def __init__(self, facts, keeps, owns, cap):
        self.facts = facts
        # Copies, since what a run that goes wrong has stored does not count.
        self.stores = {"let": {}, "keep": dict(keeps), "own": dict(owns)}
        self.told = {"weight": 0, "cap": cap}


def made_of(sign, one, other):
    """What a sign makes of two numbers; None for a division by 0."""
    match sign:
        case "+":
            return one + other
        case "-":
            return one - other
        case "*":
            return one * other
        case "/":
            return None if other == 0 else one // other
        case "mod":
            return None if other == 0 else one % other
        case "min":
            return min(one, other)
        case "max":
            return max(one, other)
        case "<":
            return int(one < other)
        case "=":
            return int(one == other)
        case "and":
            return int(one != 0 and other != 0)
        case "or":
            return int(one != 0 or other != 0)


def number_of(expression, run):
    """The number of an expression in a run; None if it is wrong."""
    head = expression[0]
    if head == "num":
        return expression[1]
    if head == "fact":
        return run.facts[expression[1]]
    if head in STORES:
        return run.stores[head].get(expression[1], 0)
    numbers = [number_of(part, run) for part in expression[1:]]
    if None in numbers:
        return None
    if head == "not":
        return int(numbers[0] == 0)
    number = made_of(head, numbers[0], numbers[1])
    if number is None or abs(number) > GREATEST_NUMBER:
        return None
    return number


def run_statement(statement, run):
    """Run a statement; whether nothing has gone wrong."""
    head = statement[0]
    number = number_of(statement[2] if head in STORES else statement[1], run)
    if number is None:
        return False
    if head == "if":
        return run_block(statement[3] if number == 0 else statement[2], run)
    if head in STORES:
        run.stores[head][statement[1]] = number
    else:
        run.told[head] = number
    return True


def run_block(block, run):
    """Run a block up to its end or to what goes wrong; whether nothing has gone wrong."""
    for statement in block:
        if not run_statement(statement, run):
            return False
    return True


def strides_of(weights):
    """How far each weight is from one part to the next, as integers that are to one another as 1 / weight."""
    common = 1
    for weight in weights:
        common = lcm(common, max(1, weight))
    return [common // max(1, weight) for weight in weights]


def parts_of_bottom(bottom, here, weights, caps):
    """How many parts of the bottom each one gets."""
    parts = [0] * len(weights)
    strides = strides_of(weights)
    for _ in range(bottom):
        takers = [person for person in here if weights[person] > 0 and parts[person] < caps[person]]
        # Of people that are alike min takes the first one, who has the lesser number.
        if len(takers) > 0:
            taker = min(takers, key=lambda person: (parts[person] + 1) * strides[person])
        else:
            taker = min(here, key=lambda person: parts[person])
        parts[taker] += 1
    return tuple(parts)


def check_needs(n, needs):
    """Raise NoNeeds unless these are the needs of n people."""
    if not are_numbers(needs, n, MOST_NEED):
        raise NoNeeds()


def check_telling(n, needs, here, things):
    """Raise NoNeeds, NoLot or NoNumbers unless a teller for n people can tell shares by these."""
    check_needs(n, needs)
    if not is_lot(here, n) or len(here) == 0:
        raise NoLot()
    if not are_numbers(things, n, MOST_NEED):
        raise NoNumbers()


def without_noughts(store):
    """A new dict of the names whose number is not 0."""
    return {name: store[name] for name in store if store[name] != 0}


class Teller:
    """One who runs a policy, beat by beat, and keeps what the policy keeps."""

    def __init__(self, n, policy):
        check_people(n)
        check_policy(policy)
        self._n = n
        self._policy = policy
        self._beat = 0
        self._keeps = {}
        self._owns = [{} for person in range(n)]

    def _run_for(self, person, facts):
        """Run the policy for a person: the pair of its weight and its cap."""
        bottom = self._policy.bottom
        run = Run(facts, self._keeps, self._owns[person], bottom)
        if not run_block(self._policy.block, run):
            return (0, bottom)
        self._keeps = run.stores["keep"]
        self._owns[person] = run.stores["own"]
        return (max(0, run.told["weight"]), min(bottom, max(0, run.told["cap"])))

    def shares(self, needs, here, things):
        """The shares of one thing for the next beat."""
        check_telling(self._n, needs, here, things)
        weights = [0] * self._n
        caps = [0] * self._n
        for person in here:
            facts = {
                "beat": self._beat, "person": person, "need": needs[person],
                "things": things[person], "people": len(here),
            }
            weights[person], caps[person] = self._run_for(person, facts)
        self._beat += 1
        bottom = self._policy.bottom
        return (bottom, parts_of_bottom(bottom, here, weights, caps))

    def turned(self, policy):
        """Another teller with this policy, in the same state, which goes on apart."""
        other = Teller(self._n, policy)
        other._beat = self._beat
        # Each run puts new dicts in the place of these, so both tellers may hold the same ones.
        other._keeps = self._keeps
        other._owns = list(self._owns)
        return other

    def kept(self):
        """The dict from names to what keep holds, without the names that are 0."""
        return without_noughts(self._keeps)

    def owned(self, person):
        """The dict from names to what own holds for a person, without the names that are 0."""
        check_person(self._n, person)
        return without_noughts(self._owns[person])

    def copy(self):
        """Another teller in the same state, which goes on apart."""
        return self.turned(self._policy)
