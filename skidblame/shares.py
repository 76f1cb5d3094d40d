"""The greatest share of the samples that a loop of a program can have: rounds, their means, and bounds."""

from skidblame.errors import NoWeights
from skidblame.fittings import fits_any
from skidblame.graphs import first_way, gaining_ring, greatest_sums
from skidblame.names import is_integer, is_number
from skidblame.programs import signs_of
from skidblame.ratios import is_fraction, lowest
from skidblame.weights import MOST_WEIGHT, check_weights

START = -1
NOTHING = (0, 1)
# Below all means, for no gain is below -10^6.
BELOW_ALL = (-10 ** 6 - 1, 1)


def _is_gains_row(thing, many):
    """Tell whether any object is the gains of a place of a program with so many signs."""
    if not isinstance(thing, tuple) or len(thing) != many:
        return False
    return all([is_number(gain, -MOST_WEIGHT, MOST_WEIGHT) for gain in thing])


def check_gains(source, gains):
    """Raise NoWeights if any object is no gains for the source's program."""
    if not isinstance(gains, tuple) or len(gains) != len(source.program):
        raise NoWeights("these are not as many tuples of gains as there are places")
    many = len(signs_of(source.program))
    if not all([_is_gains_row(row, many) for row in gains]):
        raise NoWeights("the gains of a place are no tuple of integers from -10^6 to 10^6, one for each sign")


def _columns(program):
    """Return for each place the index of its sign among the signs of the program."""
    signs = signs_of(program)
    return [signs.index(sign) for sign, nexts in program]


def _steps(source, gains):
    """Return a dict from each place, and -1, to a dict from each r behind it to the greatest (gain, p)."""
    columns = _columns(source.program)
    steps = {told: {} for told in range(START, len(source.program))}
    for told, taken, goal in source.moves:
        step = (gains[taken][columns[goal]], taken)
        steps[told][goal] = max(steps[told].get(goal, step), step)
    return steps


def _graph(steps, share):
    """Return the graph of the steps in which a ring gains if its mean is above a fraction."""
    top, bottom = share
    return {told: {goal: bottom * row[goal][0] - top for goal in row} for told, row in steps.items()}


def _best_ring(steps):
    """Return the greatest mean of a ring, and a ring that has it; or None twice if there is no ring."""
    share, best = None, None
    # Each ring that is found has a greater mean than the one before, until there is none above it.
    ring = gaining_ring(_graph(steps, BELOW_ALL), START)
    while ring is not None:
        gains = [steps[told][goal][0] for told, goal in zip(ring, ring[1:])]
        share, best = lowest(sum(gains), len(gains)), ring
        ring = gaining_ring(_graph(steps, share), START)
    return share, best


def share_of(source, gains):
    """Return the greatest mean of a round, or None if there is no round."""
    check_gains(source, gains)
    return _best_ring(_steps(source, gains))[0]


def worst_round(source, gains):
    """Return a round whose mean is the share, or None if there is no round."""
    check_gains(source, gains)
    steps = _steps(source, gains)
    ring = _best_ring(steps)[1]
    if ring is None:
        return None
    lead = first_way(_graph(steps, NOTHING), START, ring[0])
    way = lead + ring[1:]
    return [(steps[told][goal][1], goal) for told, goal in zip(way, way[1:])], len(lead) - 1


def share_bounds(source, gains):
    """Return the least bounds of the share, or of (0, 1) if there is no round."""
    check_gains(source, gains)
    steps = _steps(source, gains)
    share = _best_ring(steps)[0]
    sums = greatest_sums(_graph(steps, NOTHING if share is None else share), START)[0]
    return {place: sums[place] for place in sorted(sums)}


def excess_of(source, gains):
    """Return by how much the gains of a fitting can exceed what the share lets expect, times its denominator."""
    return max(share_bounds(source, gains).values())


def is_round(source, thing):
    """Tell whether any object is a round."""
    if not isinstance(thing, tuple) or len(thing) != 2:
        return False
    pairs, turn = thing
    if not fits_any(source, pairs) or not is_number(turn, 1, len(pairs) - 1):
        return False
    return pairs[turn - 1][1] == pairs[-1][1]


def mean_of(source, gains, thing):
    """Return the mean of a round."""
    columns = _columns(source.program)
    pairs, turn = thing
    found = [gains[taken][columns[goal]] for taken, goal in pairs[turn:]]
    return lowest(sum(found), len(found))


def shows_round(source, gains, share, thing):
    """Tell whether any object is a round with a fraction as its mean."""
    check_gains(source, gains)
    if not is_fraction(share) or not is_round(source, thing):
        return False
    return mean_of(source, gains, thing) == share


def shows_bounds(source, gains, share, thing):
    """Tell whether any object is bounds of a fraction."""
    check_gains(source, gains)
    if not is_fraction(share) or not isinstance(thing, dict):
        return False
    if not all([is_number(place, START, len(source.program) - 1) for place in thing]):
        return False
    if not all([is_integer(bound) for bound in thing.values()]):
        return False
    if START not in thing or thing[START] < 0:
        return False
    graph = _graph(_steps(source, gains), share)
    for place in thing:
        for goal, gain in graph[place].items():
            if goal not in thing or thing[goal] < thing[place] + gain:
                return False
    return True


def gains_of(source, weights, prices):
    """Return the gains that are the weight of the place less the price of the sign."""
    check_weights(source, weights)
    if not isinstance(prices, tuple) or len(prices) != len(signs_of(source.program)):
        raise NoWeights("these are not as many prices as there are signs")
    if not all([is_integer(price) for price in prices]):
        raise NoWeights("a price is no integer")
    gains = tuple([tuple([weight - price for price in prices]) for weight in weights])
    check_gains(source, gains)
    return gains
