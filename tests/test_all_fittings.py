"""Fittings and weights against going through all fittings, and runs against plain walks, over drawn sources."""

import unittest

from skidblame.errors import NoFit
from skidblame.fittings import fitting, how_many, is_fitting, reached, run_of, shows_run
from skidblame.programs import signs_of
from skidblame.sources import Source
from skidblame.weights import counts, greatest, least, shows_greatest, shows_least, shows_none, surely
from tests.drawn import Draw, all_programs, all_watchers, drawn_sources, drawn_weights
from tests.plainfits import all_fittings, fewest_steps, lists_of, moves_of, sampled, weigh


def drawn_told(draw, source, most):
    """A told list that mostly has a fitting."""
    told, place = [], -1
    for _ in range(draw.below(most + 1)):
        can = [move for move in source.moves if move[0] == place]
        if not can:
            break
        _, _, place = can[draw.below(len(can))]
        told.append(source.program[place][0])
    return told


class AgainstAllFittings(unittest.TestCase):
    def agrees(self, draw, source, moves, told):
        program, many = source.program, len(source.program)
        every = all_fittings(program, moves, told)
        case = (program, source.watcher, told)
        self.assertEqual(every[0] if every else None, fitting(source, told), case)
        self.assertEqual(len(every), how_many(source, told), case)
        rows = [sorted({row[-1][1] for row in all_fittings(program, moves, told[:k])}) for k in range(1, len(told) + 1)]
        self.assertEqual([[-1], *rows], reached(source, told), case)
        weights = drawn_weights(draw, many)
        self.weighs(source, told, weights, every)
        self.hits(draw, source, told, every)
        self.leads(source, told, every)

    def weighs(self, source, told, weights, every):
        case = (source.program, source.watcher, told, weights)
        for function, shows, best in ((least, shows_least, min), (greatest, shows_greatest, max)):
            found = function(source, told, weights)
            if not every:
                self.assertIsNone(found, case)
                continue
            value = best(weigh(weights, row) for row in every)
            first = [row for row in every if weigh(weights, row) == value][0]
            self.assertEqual((value, first), found[:2], case)
            self.assertIs(True, shows(source, told, weights, found), case)
            for row in every[:40]:
                right = weigh(weights, row) == value
                self.assertIs(right, shows(source, told, weights, (value, row, found[2])), case)
                self.assertIs(right, shows(source, told, weights, (weigh(weights, row), row, found[2])), case)
        rows = least(source, told, (0,) * len(weights))
        if every:
            self.assertIs(False, shows_none(source, told, rows[2]), case)
        else:
            rows = [{place: 0 for place in row} for row in reached(source, told)]
            self.assertIs(True, shows_none(source, told, rows), case)

    def hits(self, draw, source, told, every):
        places = draw.some(range(len(source.program)), 2)
        numbers = [len([p for p, _ in row if p in places]) for row in every]
        wanted = (min(numbers), max(numbers)) if every else None
        self.assertEqual(wanted, counts(source, told, places), (source.program, source.watcher, told, places))

    def leads(self, source, told, every):
        if not every:
            self.assertRaises(NoFit, surely, source, told)
            return
        many = len(source.program)
        rows = [[[p for p, _ in row].count(place) for place in range(many)] for row in every]
        wanted = [(a, b) for a in range(many) for b in range(many) if a != b and all(row[a] >= row[b] for row in rows)]
        self.assertEqual(wanted, surely(source, told), (source.program, source.watcher, told))

    def test_drawn_sources(self):
        for draw, program, watcher, source in drawn_sources(11, 120, 4):
            moves = moves_of(program, watcher)
            for _ in range(4):
                self.agrees(draw, source, moves, drawn_told(draw, source, 4))

    def test_drawn_sources_with_more_places(self):
        for draw, program, watcher, source in drawn_sources(12, 20, 8, 30, 30):
            moves = moves_of(program, watcher)
            self.agrees(draw, source, moves, drawn_told(draw, source, 2))

    def test_all_short_told_lists(self):
        for draw, program, watcher, source in drawn_sources(13, 40, 3):
            moves = moves_of(program, watcher)
            for told in lists_of([*signs_of(program), "none"], 3):
                self.agrees(draw, source, moves, told)

    def test_all_sources_of_one_place_and_some_of_two(self):
        draw = Draw(14)
        for many, gaps, highs, part in ((1, 2, 2, 1), (2, 2, 2, 29)):
            for k, program in enumerate(all_programs(many)):
                for watcher in all_watchers(many, gaps, highs)[k % part::part]:
                    for told in lists_of(["a"], 3):
                        self.agrees(draw, Source(program, watcher), moves_of(program, watcher), told)

    def test_what_is_a_fitting(self):
        for draw, program, watcher, source in drawn_sources(15, 60, 3):
            every = all_fittings(program, moves_of(program, watcher), told := drawn_told(draw, source, 3))
            pairs = [(p, r) for p in range(-1, 4) for r in range(-1, 4)]
            for _ in range(100):
                thing = [pairs[draw.below(len(pairs))] for _ in told]
                self.assertIs(thing in every, is_fitting(source, told, thing))
            for thing in every[:50]:
                self.assertIs(True, is_fitting(source, told, thing))


class AgainstWalks(unittest.TestCase):
    def test_the_fewest_steps(self):
        for places, gaps, highs in ((3, 3, 4), (6, 5, 8), (8, 30, 30)):
            for draw, program, watcher, source in drawn_sources(21, 40, places, gaps, highs):
                found = all_fittings(program, source.moves, drawn_told(draw, source, 3 if places < 8 else 2))
                for row in found[::1 + len(found) // 4]:
                    run, moments = run_of(source, row)
                    self.assertEqual(fewest_steps(program, watcher, row), len(run) - 1, (program, watcher, row))
                    self.assertIs(True, shows_run(source, row, (run, moments)), (program, watcher, row))
                    if moments:
                        self.assertEqual(len(run) - 1, moments[-1][1])

    def test_one_step_off(self):
        for draw, program, watcher, source in drawn_sources(22, 80, 4):
            found = all_fittings(program, source.moves, drawn_told(draw, source, 3))
            for row in found[::1 + len(found) // 4]:
                self.moved(program, watcher, source, row)

    def moved(self, program, watcher, source, row):
        """Each moment of a right run moved by one is told as points 5 and 6 tell it."""
        run, moments = run_of(source, row)
        for at in range(2 * len(moments)):
            for step in (-1, 1):
                flat = [moment for pair in moments for moment in pair]
                flat[at] += step
                pairs = list(zip(flat[::2], flat[1::2]))
                wanted = right_moments(program, watcher, run, pairs) and shown(run, pairs) == row
                self.assertIs(wanted, shows_run(source, row, (run, pairs)), (program, watcher, row, pairs))

    def test_whatever_run_is_sampled_what_it_shows_is_a_fitting_within_the_weights(self):
        samples = 0
        for draw, program, watcher, source in drawn_sources(23, 150, 6, 4, 5):
            for _ in range(4):
                run, moments, row = sampled(draw, program, watcher, 40)
                samples += len(row)
                told = [program[r][0] for _, r in row]
                weights = drawn_weights(draw, len(program))
                self.assertIs(True, is_fitting(source, told, row), (program, watcher, run, moments))
                self.assertIs(True, shows_run(source, row, (run, moments)), (program, watcher, run, moments))
                value = weigh(weights, row)
                self.assertLessEqual(least(source, told, weights)[0], value)
                self.assertLessEqual(value, greatest(source, told, weights)[0])
                self.assertLessEqual(len(run_of(source, row)[0]), len(run))
                self.assertIn([r for _, r in row][-1] if row else -1, reached(source, told)[-1])
        self.assertGreater(samples, 1000)


def shown(run, moments):
    return [(run[taken], run[told]) for taken, told in moments]


def right_moments(program, watcher, run, moments):
    """Whether moments of a run are as point 6 has them: in order, with skids, and as far apart."""
    gap, wide, low, high, marks = watcher
    for k, (taken, told) in enumerate(moments):
        if not 0 <= taken <= told < len(run) or told - taken > high or any(place in marks for place in run[taken:told]):
            return False
        if told - taken < low and run[told] not in marks and program[run[told]][1]:
            return False
        if k and not gap <= taken - moments[k - 1][1] <= (10 ** 9 if wide is None else wide):
            return False
    return True


if __name__ == "__main__":
    unittest.main()
