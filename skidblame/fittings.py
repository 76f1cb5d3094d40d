"""Told lists, their fittings, and runs that show them."""

from skidblame.errors import Mismatch, NoFit
from skidblame.names import is_integer, is_name
from skidblame.programs import is_stretch
from skidblame.sources import is_skid, stretch_of
from skidblame.sums import lightest, lightest_fitting, pairs_of, sums_ahead


def check_told(told):
    """Raise NoFit if any object is no told list."""
    if not isinstance(told, list) or not all([is_name(sign) for sign in told]):
        raise NoFit("this is no told list")


def weightless(source):
    """Return weights for the source's program that are all 0."""
    return (0,) * len(source.program)


def told_by(source, fitting):
    """Return the told list that a fitting is one of."""
    return [source.program[goal][0] for taken, goal in fitting]


def fits_any(source, thing):
    """Tell whether any object is a fitting of some told list."""
    if not isinstance(thing, list):
        return False
    if not all([isinstance(pair, tuple) and len(pair) == 2 for pair in thing]):
        return False
    ahead = [-1] + [pair[1] for pair in thing]
    return all([(told, taken, goal) in source for told, (taken, goal) in zip(ahead, thing)])


def reached(source, told):
    """Return, for each beginning of a told list, the ascending list of the places it can end with."""
    check_told(told)
    return [list(row) for row in sums_ahead(lightest(source, weightless(source)), told)]


def fitting(source, told):
    """Return the least fitting of a told list, or None."""
    check_told(told)
    return lightest_fitting(source, told, weightless(source))


def how_many(source, told):
    """Return the number of the fittings of a told list."""
    check_told(told)
    pairs, many = pairs_of(source), {-1: 1}
    for sign in told:
        after = {}
        for place, count in many.items():
            for _, goal in pairs.get((place, sign), []):
                after[goal] = after.get(goal, 0) + count
        many = after
    return sum(many.values())


def is_fitting(source, told, thing):
    """Tell whether any object is a fitting of a told list."""
    check_told(told)
    return fits_any(source, thing) and told_by(source, thing) == told


def run_of(source, fitting):
    """Return a shortest run that shows a fitting, and the moments (taken, told) of its pairs."""
    if not fits_any(source, fitting):
        raise Mismatch("this is no fitting of any told list")
    run, moments, ahead, known = [0], [], -1, {}
    for taken, goal in fitting:
        move = (ahead, taken, goal)
        if move not in known:
            known[move] = stretch_of(source, move)
        # What lies between two tellings hangs on nothing else, so that the shortest parts make
        # up a shortest run.
        stretch, steps = known[move]
        begun = len(run) - 1
        run.extend(stretch[1:])
        moments.append((begun + steps, len(run) - 1))
        ahead = goal
    return run, moments


def _are_moments(thing, steps):
    """Tell whether any object is a list of pairs of moments of a run of so many steps."""
    if not isinstance(thing, list):
        return False
    if not all([isinstance(pair, tuple) and len(pair) == 2 for pair in thing]):
        return False
    if not all([is_integer(taken) and is_integer(told) for taken, told in thing]):
        return False
    return all([0 <= taken <= told <= steps for taken, told in thing])


def _are_spaced(watcher, moments):
    """Tell whether the steps between each telling and the next taking are as the watcher has them."""
    gap, wide = watcher[0], watcher[1]
    gone = [after[0] - pair[1] for pair, after in zip(moments, moments[1:])]
    return all([gap <= steps and (wide is None or steps <= wide) for steps in gone])


def shows_run(source, fitting, thing):
    """Tell whether any object is a run that shows a fitting, with the moments of its pairs."""
    if not fits_any(source, fitting) or not isinstance(thing, tuple) or len(thing) != 2:
        return False
    run, moments = thing
    if not is_stretch(source.program, run) or run[0] != 0 or not _are_moments(moments, len(run) - 1):
        return False
    if [(run[taken], run[told]) for taken, told in moments] != fitting:
        return False
    if not _are_spaced(source.watcher, moments):
        return False
    return all([is_skid(source, run[taken:told + 1]) for taken, told in moments])
