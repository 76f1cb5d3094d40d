"""Whether each told list of one source is one of another source, too: lists that part them, and covers."""

from skidblame.fittings import reached
from skidblame.names import is_ascending, is_name, is_number
from skidblame.programs import signs_of

START = (-1,)


def _goals(source):
    """Return a dict from each (q, sign) to a dict of True by the places behind."""
    goals = {}
    for told, taken, goal in source.moves:
        goals.setdefault((told, source.program[goal][0]), {})[goal] = True
    return goals


def _behind(goals, places, sign):
    return tuple(sorted({goal for place in places for goal in goals.get((place, sign), {})}))


def behind(source, places, sign):
    """Return the ascending tuple of the places behind a sign from some places, or from (-1,)."""
    return _behind(_goals(source), places, sign)


def _searched(one, other):
    """Return the least told list that parts two sources, or None, and the pairs that told lists lead to.

    A pair is a place of the one that a sample can be told at, and all places of the other.
    """
    mine, theirs = _goals(one), _goals(other)
    signs, found, row = signs_of(one.program), {(-1, START): True}, [([], START, START)]
    while len(row) > 0:
        after = []
        for told, places, others in row:
            for sign in signs:
                goals, kept = _behind(mine, places, sign), _behind(theirs, others, sign)
                if len(goals) > 0 and len(kept) == 0:
                    return [*told, sign], found
                # What parts behind a pair that was found parts behind the lesser list that led there.
                fresh = tuple([goal for goal in goals if (goal, kept) not in found])
                if len(fresh) > 0:
                    found.update({(goal, kept): True for goal in fresh})
                    after.append(([*told, sign], fresh, kept))
        row = after
    return None, found


def apart(one, other):
    """Return the least told list that has a fitting for the one and none for the other, or None."""
    return _searched(one, other)[0]


def difference(one, other):
    """Return the least told list that has a fitting for just one of both, or None."""
    found = [(len(told), told) for told in (apart(one, other), apart(other, one)) if told is not None]
    return None if len(found) == 0 else min(found)[1]


def is_within(one, other):
    """Tell whether each told list that has a fitting for the one has a fitting for the other."""
    return apart(one, other) is None


def cover(one, other):
    """Return a cover of the one by the other, or None."""
    told, pairs = _searched(one, other)
    return list(pairs) if told is None else None


def shows_apart(one, other, thing):
    """Tell whether any object is a told list that has a fitting for the one and none for the other."""
    if not isinstance(thing, list) or not all([is_name(sign) for sign in thing]):
        return False
    return len(reached(one, thing)[-1]) > 0 and len(reached(other, thing)[-1]) == 0


def _is_pair(one, other, thing):
    """Tell whether any object is a pair that a cover can have."""
    if not isinstance(thing, tuple) or len(thing) != 2:
        return False
    place, places = thing
    if not is_number(place, -1, len(one.program) - 1) or not isinstance(places, tuple):
        return False
    return places == START or len(places) > 0 and is_ascending(places, len(other.program) - 1)


def _has_within(tuples, goals):
    """Tell whether all places of one of the tuples are among the goals."""
    return any([all([place in goals for place in places]) for places in tuples])


def shows_cover(one, other, thing):
    """Tell whether any object is a cover of the one by the other."""
    if not isinstance(thing, list) or not all([_is_pair(one, other, pair) for pair in thing]):
        return False
    if (-1, START) not in thing or len({pair for pair in thing}) != len(thing):
        return False
    mine, theirs, tuples = _goals(one), _goals(other), {}
    for place, places in thing:
        tuples.setdefault(place, []).append(places)
    known = {}
    for place, places in thing:
        for sign in signs_of(one.program):
            goals = _behind(theirs, places, sign)
            for goal in mine.get((place, sign), {}):
                # Many pairs ask for the same, and there can be many tuples to go through.
                if (goal, goals) not in known:
                    known[goal, goals] = _has_within(tuples.get(goal, []), goals)
                if not known[goal, goals]:
                    return False
    return True
