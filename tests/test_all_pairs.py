"""The spread and growths against going through all pairs of fittings, over drawn sources."""

import unittest

from skidblame.fittings import is_fitting
from skidblame.programs import signs_of
from skidblame.sources import Source
from skidblame.spread import growth, shows_growth, shows_spread, spread_bounds, spread_of, widest
from tests.drawn import drawn_sources, drawn_weights
from tests.plainfits import all_fittings, differences, lists_of, moves_of, pair_steps, weigh

START = (-1, -1)


def all_pairs(program, moves, most):
    """Each pair of fittings of each told list of at most so many signs."""
    for told in lists_of(signs_of(program), most):
        every = all_fittings(program, moves, told)
        for first in every:
            for second in every:
                yield first, second


def ends_of(first, second):
    return (first[-1][1], second[-1][1]) if first else START


def is_growth(weights, first, second, turn):
    """Whether two fittings of one told list are a growth with this turn, word by word."""
    if not 1 <= turn < len(first) or ends_of(first[:turn], second[:turn]) != ends_of(first, second):
        return False
    return weigh(weights, first[turn:]) > weigh(weights, second[turn:])


def greatest_of(rows):
    """The greatest difference of each pair of places, over all numbers of signs."""
    found = {}
    for row in rows:
        for node, sums in row.items():
            found[node] = max(max(sums), found.get(node, max(sums)))
    return found


def has_growth(steps, nodes, most):
    """Whether a way from one of the nodes back to it gains something, within so many signs."""
    for node in nodes:
        if any(max(row[node]) > 0 for row in differences(steps, node, most)[1:] if node in row):
            return True
    return False


def are_bounds(steps, value, bounds):
    """Whether a dict from pairs of places to integers is bounds of differences, word by word."""
    if bounds.get(START, -1) < 0 or max(bounds.values()) != value:
        return False
    return all(
        goal in bounds and bounds[goal] >= bounds[node] + gain for node in bounds for goal, gain in steps.get(node, ()))


def small_weights(draw, many):
    return tuple([draw.below(5) - 2 for _ in range(many)])


class AgainstAllPairs(unittest.TestCase):
    def test_short_told_lists(self):
        """Also: what the tests below take for all differences is just what all pairs of fittings show."""
        for draw, program, watcher, source in drawn_sources(31, 40, 3, 3, 1):
            moves, weights = moves_of(program, watcher), drawn_weights(draw, len(program))
            found = {}
            for first, second in all_pairs(program, moves, 2):
                found.setdefault(ends_of(first, second), set()).add(weigh(weights, first) - weigh(weights, second))
            rows = differences(pair_steps(program, moves, weights), START, 2)
            self.assertEqual(found, {node: set().union(*[row.get(node, ()) for row in rows]) for row in rows for node in row})
            spread = spread_of(source, weights)
            if spread is not None:
                bounds = spread_bounds(source, weights)
                self.assertLessEqual(max(max(sums) for sums in found.values()), spread)
                self.assertTrue(all(max(found[node]) <= bounds[node] for node in found))

    def agrees(self, program, watcher, source, weights):
        """Tell whether there is a spread, after a look at all that is told of it."""
        steps, many = pair_steps(program, moves_of(program, watcher), weights), len(program) ** 2
        found, case = greatest_of(differences(steps, START, many)), (program, watcher, weights)
        if has_growth(steps, list(found), many):
            self.assertEqual((None,) * 3, tuple([told(source, weights) for told in (spread_of, widest, spread_bounds)]), case)
            first, second, turn = growth(source, weights)
            self.stands(source, first, second, case)
            self.assertTrue(is_growth(weights, first, second, turn), case)
            self.assertIs(True, shows_growth(source, weights, (first, second, turn)), case)
            return False
        self.assertIsNone(growth(source, weights), case)
        spread, bounds = spread_of(source, weights), spread_bounds(source, weights)
        self.assertEqual(max(found.values()), spread, case)
        self.assertEqual(sorted(found.items()), list(bounds.items()), case)
        self.assertIs(True, shows_spread(source, weights, spread, bounds), case)
        first, second = widest(source, weights)
        self.stands(source, first, second, case)
        self.assertEqual(spread, weigh(weights, first) - weigh(weights, second), case)
        return True

    def stands(self, source, first, second, case):
        told = [source.program[r][0] for _, r in first]
        self.assertIs(True, is_fitting(source, told, first), case)
        self.assertIs(True, is_fitting(source, told, second), case)

    def test_drawn_sources_of_three_places(self):
        told = [
            self.agrees(program, watcher, source, small_weights(draw, len(program)))
            for draw, program, watcher, source in drawn_sources(32, 150, 3)]
        self.assertGreater(min(told.count(True), told.count(False)), 20)

    def test_drawn_sources_of_two_places_with_great_weights(self):
        for draw, program, watcher, source in drawn_sources(33, 150, 2, 4, 6):
            self.agrees(program, watcher, source, drawn_weights(draw, len(program)))

    def test_drawn_sources_of_more_places_with_few_moves(self):
        told = []
        for draw, program, watcher, source in drawn_sources(34, 300, 6, 2, 2):
            program = tuple([(f"{sign}{place // 2}", nexts[:2]) for place, (sign, nexts) in enumerate(program)])
            source, few = Source(program, (1, 1, 0, watcher[3] // 2, watcher[4])), small_weights(draw, len(program))
            told.append(self.agrees(program, source.watcher, source, few))
        self.assertGreater(min(told.count(True), told.count(False)), 20)


class AgainstWords(unittest.TestCase):
    def test_which_pairs_are_growths(self):
        told = []
        for draw, program, watcher, source in drawn_sources(41, 150, 3, 3, 2):
            weights = small_weights(draw, len(program))
            every = [pair for pair in all_pairs(program, moves_of(program, watcher), 3) if len(pair[0]) > 1]
            for first, second in every[::1 + len(every) // 60]:
                for turn in range(-1, 5):
                    told.append(shows_growth(source, weights, (first, second, turn)))
                    self.assertIs(is_growth(weights, first, second, turn), told[-1], (program, watcher, weights))
        self.assertGreater(min(told.count(True), told.count(False)), 100)

    def test_which_dicts_are_bounds(self):
        told = []
        for draw, program, watcher, source in drawn_sources(42, 300, 3, 3, 2):
            weights = small_weights(draw, len(program))
            steps = pair_steps(program, moves_of(program, watcher), weights)
            bounds = spread_bounds(source, weights)
            for _ in range(10 if bounds else 0):
                moved = {node: bounds[node] + (1, 0, 0, 0, 0, 0, 0, -1)[draw.below(8)] for node in bounds if draw.below(40)}
                if draw.below(4) == 0:
                    moved[(draw.below(len(program)), draw.below(len(program)))] = draw.below(9) - 4
                value = max([*moved.values(), 0]) + (draw.below(10) == 0)
                told.append(shows_spread(source, weights, value, moved))
                self.assertIs(bool(moved) and are_bounds(steps, value, moved), told[-1], (program, watcher, weights, moved))
        self.assertGreater(min(told.count(True), told.count(False)), 200)


if __name__ == "__main__":
    unittest.main()
