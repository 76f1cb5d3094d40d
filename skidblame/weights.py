"""The least and the greatest weight of the fittings of a told list, and bounds that show them."""

from skidblame.errors import NoFit, NoWeights
from skidblame.fittings import check_told, is_fitting, reached, weightless
from skidblame.names import is_integer, is_number
from skidblame.sums import lightest, lightest_fitting, sums_ahead

MOST_WEIGHT = 10 ** 6
# The greatest weight is the least one of the turned weights, turned back.
LEAST = 1
GREATEST = -1


def check_weights(source, weights):
    """Raise NoWeights if any object is no weights for the source's program."""
    if not isinstance(weights, tuple) or len(weights) != len(source.program):
        raise NoWeights("these are not as many weights as there are places")
    if not all([is_number(weight, -MOST_WEIGHT, MOST_WEIGHT) for weight in weights]):
        raise NoWeights("a weight is no integer from -10^6 to 10^6")


def turned(weights, way):
    """Return the weights as they are, or, if way is -1, each with its sign changed."""
    return tuple([way * weight for weight in weights])


def weight_of(weights, pairs):
    """Return the weight of some pairs of a fitting."""
    return sum([weights[taken] for taken, goal in pairs])


def _turned_rows(rows, way):
    return [{place: way * row[place] for place in row} for row in rows]


def _extreme(source, told, weights, way):
    check_told(told)
    check_weights(source, weights)
    found = lightest_fitting(source, told, turned(weights, way))
    if found is None:
        return None
    rows = sums_ahead(lightest(source, turned(weights, way)), told)
    return weight_of(weights, found), found, _turned_rows(rows, way)


def least(source, told, weights):
    """Return the least weight of a fitting, the least fitting that has it, and bounds; or None."""
    return _extreme(source, told, weights, LEAST)


def greatest(source, told, weights):
    """Return the greatest weight of a fitting, the least fitting that has it, and bounds; or None."""
    return _extreme(source, told, weights, GREATEST)


def _is_row(source, thing):
    """Tell whether any object is a dict from places to integers."""
    if not isinstance(thing, dict):
        return False
    if not all([is_number(place, 0, len(source.program) - 1) for place in thing]):
        return False
    return all([is_integer(value) for value in thing.values()])


def _are_rows(source, told, thing):
    """Tell whether any object has the form of bounds for a told list."""
    if not isinstance(thing, list) or len(thing) != len(told) + 1:
        return False
    # {-1: False} is equal to the first dict and yet another object.
    if thing[0] != {-1: 0} or not is_integer(thing[0][-1]):
        return False
    return all([_is_row(source, row) for row in thing[1:]])


def _are_below(table, told, rows):
    """Tell whether no step goes below what the rows have where it ends."""
    for row, after, sign in zip(rows, rows[1:], told):
        for place, value in row.items():
            for goal, (weight, _) in table.get((place, sign), {}).items():
                if goal not in after or after[goal] > value + weight:
                    return False
    return True


def _shows(source, told, weights, thing, way):
    check_told(told)
    check_weights(source, weights)
    if not isinstance(thing, tuple) or len(thing) != 3:
        return False
    value, pairs, bounds = thing
    if not is_integer(value) or not is_fitting(source, told, pairs) or weight_of(weights, pairs) != value:
        return False
    if not _are_rows(source, told, bounds):
        return False
    rows = _turned_rows(bounds, way)
    if not _are_below(lightest(source, turned(weights, way)), told, rows):
        return False
    return min(rows[-1].values()) == way * value


def shows_least(source, told, weights, thing):
    """Tell whether any object is the least weight, a fitting that has it, and bounds from below."""
    return _shows(source, told, weights, thing, LEAST)


def shows_greatest(source, told, weights, thing):
    """Tell whether any object is the greatest weight, a fitting that has it, and bounds from above."""
    return _shows(source, told, weights, thing, GREATEST)


def shows_none(source, told, thing):
    """Tell whether any object is bounds from below that show that there is no fitting."""
    check_told(told)
    if not _are_rows(source, told, thing) or len(thing[-1]) > 0:
        return False
    return _are_below(lightest(source, weightless(source)), told, thing)


def _least_sum(source, told, weights):
    """Return the least weight of a fitting; there is one."""
    return min(sums_ahead(lightest(source, weights), told)[-1].values())


def _has_fitting(source, told):
    return len(reached(source, told)[-1]) > 0


def counts(source, told, places):
    """Return the least and the greatest number of samples taken at some places; None without a fitting."""
    if not _has_fitting(source, told):
        return None
    weights = tuple([1 if place in places else 0 for place in range(len(source.program))])
    return _least_sum(source, told, weights), -_least_sum(source, told, turned(weights, GREATEST))


def _leads(source, told, one, other):
    """Tell whether each fitting has at least as many samples taken at the one place as at the other."""
    weights = list(weightless(source))
    weights[one], weights[other] = 1, -1
    return _least_sum(source, told, weights) >= 0


def surely(source, told):
    """Return the pairs (a, b) of places such that a is surely hit at least as often as b, ascending."""
    if not _has_fitting(source, told):
        raise NoFit("this told list has no fitting")
    places = range(len(source.program))
    pairs = [(one, other) for one in places for other in places if one != other]
    return [(one, other) for one, other in pairs if _leads(source, told, one, other)]
