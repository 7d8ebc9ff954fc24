"""Rows that are known ahead: plans that keep them, and the windows of things."""

from harmonicdues.basics import is_lot, rounded_down, rounded_up
from harmonicdues.errors import NoPlan
from harmonicdues.shares import check_person, check_row, sums_behind


def fits_plan(n, m, row, thing):
    """Whether a thing is a tuple with a lot of m people for each beat of a row."""
    if not isinstance(thing, tuple) or len(thing) != len(row):
        return False
    return all([is_lot(lot, n) and len(lot) == m for lot in thing])


def place_astray(n, row, lots):
    """The first beat behind which someone has not as many things as a row tells, and the least such person."""
    things = [0] * n
    for beat, sums in enumerate(sums_behind(n, row)):
        for person in lots[beat]:
            things[person] += 1
        for person in range(n):
            if not rounded_down(sums[person]) <= things[person] <= rounded_up(sums[person]):
                return (beat, person)
    return None


def is_plan(n, m, row, thing):
    """Whether a thing is a plan that keeps a row."""
    check_row(n, m, row)
    return fits_plan(n, m, row, thing) and place_astray(n, row, thing) is None


def astray(n, m, row, lots):
    """None for a plan that keeps a row, else the first beat and the least person with whom it does not."""
    check_row(n, m, row)
    if not fits_plan(n, m, row, lots):
        raise NoPlan()
    return place_astray(n, row, lots)


def windows_of_all(n, row):
    """The list, person by person, of the lists of the windows of the things."""
    firsts = [[] for _ in range(n)]
    lasts = [[] for _ in range(n)]
    for beat, sums in enumerate(sums_behind(n, row)):
        for person in range(n):
            # A beat gives a whole thing at most, so one window at most begins in it, and one ends.
            if rounded_up(sums[person]) > len(firsts[person]):
                firsts[person].append(beat)
            if rounded_down(sums[person]) > len(lasts[person]):
                lasts[person].append(beat)
    # There is one thing without a last beat, or none.
    return [list(zip(firsts[person], lasts[person] + [None])) for person in range(n)]


def windows(n, m, row, person):
    """The list of the windows of all things of a person that have a first beat."""
    check_row(n, m, row)
    check_person(n, person)
    return windows_of_all(n, row)[person]


def beats_within(window, beats):
    """The list of the beats of a window, of so many beats in all."""
    first, last = window
    return list(range(first, beats if last is None else last + 1))


def things_within(all_windows, beats):
    """The dict from the things, pairs (person, thing), to the beats of their windows: those that end first first."""
    of_thing = {}
    for person, of_person in enumerate(all_windows):
        for at, window in enumerate(of_person):
            of_thing[(person, at + 1)] = window
    # Things without a last beat stand behind all others.
    order = sorted(of_thing, key=lambda thing: beats if of_thing[thing][1] is None else of_thing[thing][1])
    return {thing: beats_within(of_thing[thing], beats) for thing in order}


class Filling:
    """Beats that are filled with things: so many at most in each, no two of one person."""

    def __init__(self, m, beats, beats_of):
        self._m = m
        self._beats_of = beats_of
        # In each beat, from the people to which of their things they get.
        self._held = [{} for beat in range(beats)]

    def lots(self):
        """The tuple of the lots of who gets a thing, beat by beat."""
        return tuple([tuple(sorted(held)) for held in self._held])

    def is_full(self):
        """Whether so many things as are let are in each beat."""
        return all([len(held) == self._m for held in self._held])

    def put(self, thing):
        """Put a thing into a beat, others giving way: None, or the list of the things that gave way in vain."""
        came = {thing: None}
        reached = [thing]
        asked = {}
        at = 0
        while at < len(reached):
            one = reached[at]
            for beat in self._beats_of[one]:
                if self._has_room(one, beat):
                    self._move(came, one, beat)
                    return None
                for other in self._in_the_way(one, beat, asked):
                    if other not in came:
                        came[other] = (one, beat)
                        reached.append(other)
            at += 1
        return reached

    def _has_room(self, thing, beat):
        """Whether a thing can be put into a beat as it is."""
        held = self._held[beat]
        return len(held) < self._m and thing[0] not in held

    def _in_the_way(self, thing, beat, asked):
        """The list of the things of which one has to leave a beat so that this one has room in it."""
        held = self._held[beat]
        if thing[0] in held:
            return [(thing[0], held[thing[0]])]
        if beat in asked:
            return []
        asked[beat] = True
        return list(held.items())

    def _move(self, came, thing, beat):
        """Put a thing into a beat, what led to it into the beat that it leaves, and so on."""
        while came[thing] is not None:
            before, left = came[thing]
            del self._held[left][thing[0]]
            self._held[beat][thing[0]] = thing[1]
            thing, beat = before, left
        self._held[beat][thing[0]] = thing[1]


def plan(n, m, row):
    """A plan that keeps a row."""
    check_row(n, m, row)
    beats_of = things_within(windows_of_all(n, row), len(row))
    filling = Filling(m, len(row), beats_of)
    # A thing that was put once stays put, so those that need not be dealt fill only what is left.
    for thing in beats_of:
        filling.put(thing)
    return filling.lots()
