"""Moves, skids and stretches against plain walks over drawn and over all small sources."""

import unittest

from skidblame.programs import is_program, is_stretch, is_watcher
from skidblame.sources import Source, skids, stretch_of
from tests.drawn import Draw, all_programs, all_watchers
from tests.plain import by_sets, by_stretches, is_skid, least_skids


class AgainstWalks(unittest.TestCase):
    def agrees(self, program, watcher, steps):
        """The moves of a source, and a stretch of each, are those of which steps tells."""
        source = Source(program, watcher)
        self.assertEqual(sorted(steps), source.moves, (program, watcher))
        self.assertEqual(len(steps), len(source))
        for move in steps:
            self.stands(source, move, steps[move])

    def stands(self, source, move, steps):
        told, place, goal = move
        stretch, taken = stretch_of(source, move)
        gap, wide = source.watcher[:2]
        self.assertEqual(steps, (taken, len(stretch) - 1 - taken), (source.program, source.watcher, move))
        self.assertTrue(is_stretch(source.program, stretch))
        self.assertEqual((max(told, 0), place, goal), (stretch[0], stretch[taken], stretch[-1]))
        self.assertTrue(is_skid(source.program, source.watcher, stretch[taken:]))
        self.assertTrue(told == -1 or gap <= taken and (wide is None or taken <= wide))

    def test_drawn_sources_by_all_stretches(self):
        draw = Draw(1)
        for _ in range(400):
            program = draw.program(4)
            watcher = draw.watcher(len(program), 3, 4)
            self.assertTrue(is_program(program) and is_watcher(watcher))
            self.agrees(program, watcher, by_stretches(program, watcher))

    def test_drawn_skids_by_all_stretches(self):
        draw = Draw(2)
        for _ in range(300):
            program = draw.program(5)
            watcher = draw.watcher(len(program), 30, 6)
            source = Source(program, watcher)
            for place in range(len(program)):
                self.assertEqual(sorted(least_skids(program, watcher, place)), skids(source, place), (program, watcher))

    def test_drawn_sources_with_long_walks(self):
        draw = Draw(3)
        for chance in (2, 4, 6):
            for _ in range(12):
                program = draw.program(8, chance)
                watcher = draw.watcher(len(program), 30, 30)
                self.agrees(program, watcher, by_sets(program, watcher))

    def test_all_sources_of_one_or_two_places(self):
        for many, gaps, highs in ((1, 3, 3), (2, 2, 2)):
            for program in all_programs(many):
                for watcher in all_watchers(many, gaps, highs):
                    self.agrees(program, watcher, by_stretches(program, watcher))

    def test_long_ways_round(self):
        # One ring of eight and one of seven places: some places are come to late only.
        program = tuple([("a", (place + 1,)) for place in range(6)]) + (("a", (0, 7)), ("a", (0,)))
        for watcher in [(1, None, 0, 0, ()), (30, None, 0, 30, ()), (23, 30, 25, 30, (3,)), (29, 30, 29, 30, ())]:
            self.agrees(program, watcher, by_sets(program, watcher))


if __name__ == "__main__":
    unittest.main()
