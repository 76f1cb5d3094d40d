"""How far two fittings of one told list can be apart: the spread, or a growth."""

from skidblame.fittings import fits_any, is_fitting, told_by
from skidblame.graphs import first_way, gaining_ring, greatest_sums, way_back
from skidblame.names import is_integer, is_number
from skidblame.programs import signs_of
from skidblame.sums import lightest
from skidblame.weights import GREATEST, check_weights, turned, weight_of

START = (-1, -1)


class Pairs:
    """Pairs of fittings of one told list, the first one as heavy and the second one as light as can be."""

    def __init__(self, source, weights):
        self.program = source.program
        self.heavy = lightest(source, turned(weights, GREATEST))
        self.light = lightest(source, weights)

    def gains(self, first, second):
        """Return what one more sign adds to the difference, in a dict by the two places it is told at."""
        found = {}
        for sign in signs_of(self.program):
            for goal, (lost, _) in self.heavy.get((first, sign), {}).items():
                for other, (weight, _) in self.light.get((second, sign), {}).items():
                    found[goal, other] = -lost - weight
        return found

    def graph(self):
        """Return the graph of the pairs of places that two samples can be told at."""
        places = range(len(self.program))
        nodes = [START] + [(first, second) for first in places for second in places]
        return {(first, second): self.gains(first, second) for first, second in nodes}

    def fittings(self, way):
        """Return the two fittings that go along a way through the graph."""
        heavy, light = [], []
        for (first, second), (goal, other) in zip(way, way[1:]):
            sign = self.program[goal][0]
            heavy.append((self.heavy[first, sign][goal][1], goal))
            light.append((self.light[second, sign][other][1], other))
        return heavy, light


def _differences(source, weights):
    """Return the greatest differences by the places that two fittings end with, and how; or None."""
    check_weights(source, weights)
    return greatest_sums(Pairs(source, weights).graph(), START)


def spread_of(source, weights):
    """Return the spread, or None if there is none."""
    found = _differences(source, weights)
    return None if found is None else max(found[0].values())


def widest(source, weights):
    """Return two fittings of one told list whose difference is the spread, or None."""
    found = _differences(source, weights)
    if found is None:
        return None
    sums, ahead = found
    most = max(sums.values())
    ends = [node for node in sums if sums[node] == most]
    return Pairs(source, weights).fittings(way_back(ahead, ends[0]))


def spread_bounds(source, weights):
    """Return the least bounds of differences, or None if there is no spread."""
    found = _differences(source, weights)
    if found is None:
        return None
    sums = found[0]
    return {node: sums[node] for node in sorted(sums)}


def growth(source, weights):
    """Return two fittings of one told list and the turn from which on they can be repeated, or None."""
    check_weights(source, weights)
    pairs = Pairs(source, weights)
    graph = pairs.graph()
    ring = gaining_ring(graph, START)
    if ring is None:
        return None
    way = first_way(graph, START, ring[0])
    first, second = pairs.fittings(way + ring[1:])
    return first, second, len(way) - 1


def _is_pair(source, thing):
    """Tell whether any object is a tuple of two places, or (-1, -1)."""
    if not isinstance(thing, tuple) or len(thing) != 2:
        return False
    return thing == START or all([is_number(place, 0, len(source.program) - 1) for place in thing])


def is_bounds(source, weights, thing):
    """Tell whether any object is bounds of differences."""
    if not isinstance(thing, dict) or not all([_is_pair(source, node) for node in thing]):
        return False
    if not all([is_integer(bound) for bound in thing.values()]):
        return False
    if START not in thing or thing[START] < 0:
        return False
    graph = Pairs(source, weights).graph()
    for node in thing:
        for goal, gain in graph[node].items():
            if goal not in thing or thing[goal] < thing[node] + gain:
                return False
    return True


def shows_spread(source, weights, value, thing):
    """Tell whether any object is bounds of differences with value as their greatest value."""
    check_weights(source, weights)
    if not is_integer(value) or not is_bounds(source, weights, thing):
        return False
    return max(thing.values()) == value


def shows_growth(source, weights, thing):
    """Tell whether any object is a growth."""
    check_weights(source, weights)
    if not isinstance(thing, tuple) or len(thing) != 3:
        return False
    first, second, turn = thing
    if not fits_any(source, first) or not is_fitting(source, told_by(source, first), second):
        return False
    if not is_number(turn, 1, len(first) - 1):
        return False
    if first[turn - 1][1] != first[-1][1] or second[turn - 1][1] != second[-1][1]:
        return False
    return weight_of(weights, first[turn:]) > weight_of(weights, second[turn:])
