"""Programs, their stretches, and watchers."""

from skidblame.errors import NoWatcher
from skidblame.names import is_ascending, is_name, is_number

MOST_PLACES = 8
MOST_STEPS = 30


def is_place(thing, many):
    """Tell whether any object is a place of a program of so many places."""
    if not isinstance(thing, tuple) or len(thing) != 2:
        return False
    sign, nexts = thing
    return is_name(sign) and is_ascending(nexts, many - 1)


def is_program(thing):
    """Tell whether any object is a program."""
    if not isinstance(thing, tuple) or not 1 <= len(thing) <= MOST_PLACES:
        return False
    return all([is_place(place, len(thing)) for place in thing])


def is_watcher(thing):
    """Tell whether any object is a watcher."""
    if not isinstance(thing, tuple) or len(thing) != 5:
        return False
    gap, wide, low, high, marks = thing
    if not is_number(gap, 1, MOST_STEPS) or not is_number(low, 0, MOST_STEPS):
        return False
    if wide is not None and not is_number(wide, gap, MOST_STEPS):
        return False
    return is_number(high, low, MOST_STEPS) and is_ascending(marks, MOST_PLACES - 1)


def made(*, gap=1, wide=None, low=0, high=0, marks=()):
    """Return the watcher with these settings."""
    watcher = (gap, wide, low, high, marks)
    if not is_watcher(watcher):
        raise NoWatcher("these are no settings of a watcher")
    return watcher


def signs_of(program):
    """Return the ascending list of the signs of a program, each once."""
    return sorted({sign for sign, nexts in program})


def is_stretch(program, thing):
    """Tell whether any object is a stretch of a program."""
    if not isinstance(thing, list) or len(thing) == 0:
        return False
    if not all([is_number(place, 0, len(program) - 1) for place in thing]):
        return False
    return all([after in program[place][1] for place, after in zip(thing, thing[1:])])
