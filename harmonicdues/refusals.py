"""Rows of one thing a beat that are known ahead, when some people may not get the thing in some beats."""

from itertools import combinations

from harmonicdues.ahead import Filling, fits_plan, place_astray, things_within, windows_of_all
from harmonicdues.basics import is_integer, is_lot
from harmonicdues.errors import NoRefusals, TooMany
from harmonicdues.shares import check_row

MOST_BEATS_REFUSED = 10


def are_refusals(n, row, thing):
    """Whether a thing is refusals for a row."""
    if not isinstance(thing, tuple) or len(thing) != len(row):
        return False
    return all([is_lot(lot, n) for lot in thing])


def check_refusals(n, row, refusals):
    """Raise NoPeople, NoRow or NoRefusals unless these are a row of one thing and refusals for it."""
    check_row(n, 1, row)
    if not are_refusals(n, row, refusals):
        raise NoRefusals()


class Task:
    """The things of a row, pairs (person, thing): their windows, and which of them have to be dealt."""

    def __init__(self, n, row):
        all_windows = windows_of_all(n, row)
        self.length = len(row)
        self.windows = things_within(all_windows, len(row))
        self.needed = {
            thing: True for thing in self.windows if all_windows[thing[0]][thing[1] - 1][1] is not None
        }

    def beats_let(self, refusals):
        """The dict from each thing to the list of the beats in which it may be dealt."""
        return {
            thing: [beat for beat in self.windows[thing] if thing[0] not in refusals[beat]]
            for thing in self.windows
        }


def in_vain(filling, things):
    """Put things into beats: None, or what gave way in vain for the first of them that cannot be put."""
    for thing in things:
        reached = filling.put(thing)
        if reached is not None:
            return reached
    return None


def plan_of(task, refusals):
    """A plan for a task without what is refused, or None."""
    beats_of = task.beats_let(refusals)
    filling = Filling(1, task.length, beats_of)
    if in_vain(filling, task.needed) is not None:
        return None
    # What was put stays put, so all others fill only the beats that are left.
    for thing in beats_of:
        if thing not in task.needed:
            filling.put(thing)
    return filling.lots() if filling.is_full() else None


def bar_of_things(task, beats_of):
    """A bar of things, or None."""
    reached = in_vain(Filling(1, task.length, beats_of), task.needed)
    return None if reached is None else ("things", tuple(sorted(reached)))


def bar_of_beats(task, beats_of):
    """A bar of beats, or None."""
    # The other way round: beats, as if they were the things of so many people, are put into things.
    things_of = {(beat, 1): [] for beat in range(task.length)}
    for at, thing in enumerate(beats_of):
        for beat in beats_of[thing]:
            things_of[(beat, 1)].append(at)
    reached = in_vain(Filling(1, len(beats_of), things_of), things_of)
    return None if reached is None else ("beats", tuple(sorted([beat for beat, _ in reached])))


def bar_of(task, refusals):
    """A bar for a task with refusals, or None."""
    beats_of = task.beats_let(refusals)
    of_beats = bar_of_beats(task, beats_of)
    return bar_of_things(task, beats_of) if of_beats is None else of_beats


def plan_with(n, row, refusals):
    """A plan that keeps a row, in which nobody gets a thing where refused, or None."""
    check_refusals(n, row, refusals)
    return plan_of(Task(n, row), refusals)


def is_plan_with(n, row, refusals, thing):
    """Whether a thing is a plan that keeps a row, in which nobody gets a thing where refused."""
    check_refusals(n, row, refusals)
    if not fits_plan(n, 1, row, thing) or place_astray(n, row, thing) is not None:
        return False
    return all([lot[0] not in refused for lot, refused in zip(thing, refusals)])


def bar(n, row, refusals):
    """A bar, or None."""
    check_refusals(n, row, refusals)
    return bar_of(Task(n, row), refusals)


def are_needed(task, thing):
    """Whether a thing is an ascending tuple of things that have to be dealt."""
    if not isinstance(thing, tuple):
        return False
    least_next = ()
    for pair in thing:
        # The kinds are looked at first, since a flag is equal to a number.
        if not isinstance(pair, tuple) or not all([is_integer(part) for part in pair]):
            return False
        if pair < least_next or pair not in task.needed:
            return False
        least_next = (pair[0], pair[1] + 1)
    return True


def bars_things(task, beats_of, thing):
    """Whether a thing is things that are more than the beats in which some of them may be dealt."""
    if not are_needed(task, thing):
        return False
    return len({beat for pair in thing for beat in beats_of[pair]}) < len(thing)


def bars_beats(task, beats_of, thing):
    """Whether a thing is beats that are more than the things which may be dealt in some of them."""
    if not is_lot(thing, task.length):
        return False
    things = [pair for pair in beats_of if any([beat in thing for beat in beats_of[pair]])]
    return len(things) < len(thing)


def is_bar(n, row, refusals, thing):
    """Whether a thing is a bar."""
    check_refusals(n, row, refusals)
    if not isinstance(thing, tuple) or len(thing) != 2:
        return False
    task = Task(n, row)
    beats_of = task.beats_let(refusals)
    if thing[0] == "things":
        return bars_things(task, beats_of, thing[1])
    return thing[0] == "beats" and bars_beats(task, beats_of, thing[1])


def hurdle_of(task, refusals, barring):
    """The list of the beats of which one has to be left aside so that a bar is none."""
    word, lot = barring
    if word == "beats":
        return [beat for beat in lot if len(refusals[beat]) > 0]
    return [
        beat for beat, refused in enumerate(refusals)
        if any([person in refused and beat in task.windows[(person, at)] for person, at in lot])
    ]


def takes_all(lot, hurdles):
    """Whether a lot has one beat at least of each hurdle."""
    return all([any([beat in lot for beat in hurdle]) for hurdle in hurdles])


def least_refused(n, row, refusals):
    """The pair of the least number of beats whose refusals stand in the way of a plan, and the first such lot."""
    check_refusals(n, row, refusals)
    beats = [beat for beat, lot in enumerate(refusals) if len(lot) > 0]
    if len(beats) > MOST_BEATS_REFUSED:
        raise TooMany(MOST_BEATS_REFUSED)
    task = Task(n, row)
    hurdles = []
    for many in range(len(beats) + 1):
        for lot in combinations(beats, many):
            if takes_all(lot, hurdles):
                left = [() if beat in lot else refused for beat, refused in enumerate(refusals)]
                barring = bar_of(task, left)
                if barring is None:
                    return (many, lot)
                hurdles.append(hurdle_of(task, left, barring))
