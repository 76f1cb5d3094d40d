import unittest

from skidblame.errors import BlameError, Mismatch, NoProgram, NoWatcher
from skidblame.programs import made
from skidblame.sources import Source, skids, stretch_of
from tests.things import odd_things, unchanged

RING = (("a", (1,)), ("b", (2,)), ("c", (0,)))
LINE = (("a", (1,)), ("b", (2,)), ("c", (3,)), ("d", ()))
LOOP = (("a", (0,)),)
FORK = (("s", (1, 2)), ("x", (3,)), ("x", ()), ("y", (0, 3)))


class Making(unittest.TestCase):
    def test_attributes(self):
        source = Source(RING, made(high=1, marks=(2,)))
        self.assertEqual((RING, (1, None, 0, 1, (2,))), (source.program, source.watcher))

    def test_what_is_no_program(self):
        for thing in [*odd_things(), list(RING), (("a", (1,)),), (("a", [0]),), (("a", (True,)),), RING * 3, (("A", ()),)]:
            error = unchanged(self, Source, thing, made())
            self.assertIs(NoProgram, type(error))

    def test_what_is_no_watcher(self):
        for thing in [*odd_things(), list(made()), (0, None, 0, 0, ()), (True, None, 0, 0, ()), (1, None, 0, 0, [0]),
                      (1, None, 1, 0, ()), (2, 1, 0, 0, ()), (1, None, 0, 0, (8,)), (1, None, 0, 0, (False,))]:
            error = unchanged(self, Source, RING, thing)
            self.assertIs(NoWatcher, type(error))

    def test_no_program_is_told_first(self):
        for thing in [None, (0, 0), made(marks=(7,))]:
            self.assertIs(NoProgram, type(unchanged(self, Source, (("a", (1,)),), thing)))

    def test_marks_are_places_of_the_program(self):
        for many in range(1, 9):
            program = (("a", ()),) * many
            for mark in range(8):
                if mark < many:
                    self.assertEqual((mark,), Source(program, made(marks=(mark,))).watcher[4])
                else:
                    self.assertRaises(NoWatcher, Source, program, made(marks=(mark,)))
                    self.assertRaises(NoWatcher, Source, program, made(marks=tuple(sorted({0, mark}))))
            self.assertEqual(many, len(Source(program, made(marks=tuple(range(many)))).watcher[4]))


class Moves(unittest.TestCase):
    def test_one_place(self):
        self.assertEqual([(-1, 0, 0)], Source((("a", ()),), made()).moves)
        self.assertEqual([(-1, 0, 0)], Source((("a", ()),), made(low=30, high=30)).moves)
        self.assertEqual([(-1, 0, 0), (0, 0, 0)], Source(LOOP, made(gap=30, wide=30, low=30, high=30)).moves)

    def test_eight_places(self):
        program = tuple([("a", (place + 1,)) for place in range(7)]) + (("a", ()),)
        self.assertEqual([(-1, place, place) for place in range(8)], Source(program, made(gap=8)).moves)
        self.assertEqual([(-1, place, place) for place in range(8)] + [(0, 7, 7)], Source(program, made(gap=7)).moves)
        self.assertEqual([(-1, place, 7) for place in range(8)], Source(program, made(gap=30, low=30, high=30)).moves)

    def test_gap_and_wide(self):
        def behind(gap, wide):
            return [move[:2] for move in Source(LINE, made(gap=gap, wide=wide)).moves if move[0] != -1]
        self.assertEqual([(0, 1), (1, 2), (2, 3)], behind(1, 1))
        self.assertEqual([(0, 1), (0, 2), (1, 2), (1, 3), (2, 3)], behind(1, 2))
        self.assertEqual([(0, 2), (1, 3)], behind(2, 2))
        self.assertEqual([(0, 2), (0, 3), (1, 3)], behind(2, 3))
        self.assertEqual([(0, 2), (0, 3), (1, 3)], behind(2, None))
        self.assertEqual([(0, 3)], behind(3, 30))
        self.assertEqual([], behind(4, 30))
        self.assertEqual([], behind(30, None))

    def test_a_gap_of_thirty_in_a_ring(self):
        self.assertEqual([(0, 0, 0), (1, 1, 1), (2, 2, 2)], Source(RING, made(gap=30, wide=30)).moves[3:])
        self.assertEqual([(0, 2, 2), (1, 0, 0), (2, 1, 1)], Source(RING, made(gap=29, wide=29)).moves[3:])
        self.assertEqual(9, len(Source(RING, made(gap=30)).moves[3:]))
        self.assertEqual(9, len(Source(RING, made(gap=28, wide=30)).moves[3:]))

    def test_without_a_sample_ahead_gap_and_wide_count_for_nothing(self):
        for watcher in [made(), made(gap=30), made(gap=30, wide=30), made(wide=1)]:
            moves = Source(LINE, watcher).moves
            self.assertEqual([(-1, 0, 0), (-1, 1, 1), (-1, 2, 2), (-1, 3, 3)], moves[:4])

    def test_places_that_no_run_comes_to(self):
        program = (("a", ()), ("b", (0, 1)))
        self.assertEqual([(-1, 0, 0), (1, 0, 0), (1, 1, 1)], Source(program, made()).moves)

    def test_new_each_time(self):
        source = Source(RING, made())
        first = source.moves
        self.assertIsNot(first, source.moves)
        first.clear()
        self.assertEqual(12, len(source.moves))
        self.assertEqual(12, len(source))
        self.assertIn((-1, 0, 0), source)

    def test_how_many(self):
        self.assertEqual(24, len(Source(RING, made(high=1))))
        self.assertEqual(1, len(Source((("a", ()),), made())))
        self.assertEqual(576, len(Source((("a", tuple(range(8))),) * 8, made(low=1, high=1))))


class Skids(unittest.TestCase):
    def test_low_and_high(self):
        def told(low, high):
            source = Source(LINE, made(low=low, high=high))
            return [skids(source, place) for place in range(4)]
        self.assertEqual([[0], [1], [2], [3]], told(0, 0))
        self.assertEqual([[0, 1], [1, 2], [2, 3], [3]], told(0, 1))
        self.assertEqual([[1], [2], [3], [3]], told(1, 1))
        self.assertEqual([[2], [3], [3], [3]], told(2, 2))
        self.assertEqual([[1, 2], [2, 3], [3], [3]], told(1, 2))
        self.assertEqual([[3], [3], [3], [3]], told(4, 30))
        self.assertEqual([[0, 1, 2, 3], [1, 2, 3], [2, 3], [3]], told(0, 30))
        self.assertEqual([[3], [3], [3], [3]], told(30, 30))

    def test_thirty_steps(self):
        self.assertEqual([[0], [1], [2]], [skids(Source(RING, made(low=30, high=30)), place) for place in range(3)])
        self.assertEqual([1], skids(Source(RING, made(low=28, high=28)), 0))

    def test_from_a_marked_place(self):
        for low, high in [(0, 0), (0, 30), (1, 1), (2, 5), (30, 30)]:
            self.assertEqual([1], skids(Source(LINE, made(low=low, high=high, marks=(1,))), 1))
            self.assertEqual([0], skids(Source(LOOP, made(low=low, high=high, marks=(0,))), 0))

    def test_a_skid_ends_at_a_mark_ahead_of_low_steps(self):
        self.assertEqual([1], skids(Source(LINE, made(low=2, high=2, marks=(1,))), 0))
        self.assertEqual([0, 1], skids(Source(LINE, made(high=3, marks=(1,))), 0))
        self.assertEqual([1], skids(Source(LINE, made(low=1, high=3, marks=(1,))), 0))
        self.assertEqual([2], skids(Source(LINE, made(low=3, high=3, marks=(2,))), 0))

    def test_a_mark_behind_high_steps_is_not_come_to(self):
        self.assertEqual([1], skids(Source(LINE, made(low=1, high=1, marks=(2,))), 0))
        self.assertEqual([0], skids(Source(LINE, made(marks=(1,))), 0))

    def test_a_skid_ends_at_an_end_ahead_of_low_steps(self):
        self.assertEqual([3], skids(Source(LINE, made(low=2, high=4)), 2))
        self.assertEqual([2, 3], skids(Source(LINE, made(low=1, high=2)), 1))
        self.assertEqual([2], skids(Source(LINE, made(low=1, high=1)), 1))

    def test_two_ways_one_of_them_marked(self):
        self.assertEqual([1, 2], skids(Source(FORK, made(low=2, high=2, marks=(1,))), 0))
        self.assertEqual([2, 3], skids(Source(FORK, made(low=2, high=2)), 0))
        self.assertEqual([0, 1, 2, 3], skids(Source(FORK, made(low=2, high=4)), 0))

    def test_back_to_a_mark_that_it_began_with(self):
        self.assertEqual([0], skids(Source(RING, made(low=3, high=3)), 0))
        self.assertEqual([0], skids(Source(RING, made(low=2, high=3, marks=(0,))), 1))
        self.assertEqual([0], skids(Source(RING, made(low=2, high=9, marks=(0,))), 0))

    def test_new_each_time(self):
        source = Source(LINE, made(high=1))
        first = skids(source, 0)
        first.append(7)
        self.assertEqual([0, 1], skids(source, 0))


class MoveIn(unittest.TestCase):
    def test_moves_and_no_moves(self):
        source = Source(RING, made(wide=1))
        every = [(told, taken, goal) for told in range(-2, 4) for taken in range(-2, 4) for goal in range(-2, 4)]
        self.assertEqual(source.moves, [move for move in every if move in source])

    def test_any_object_is_told_and_stays_as_it_was(self):
        source = Source(LOOP + LOOP, made())
        near = [(-1, False, 0), (-1, 0, False), (-1, False, False), (False, 0, 0), (True, 0, 0), [-1, 0, 0], (-1, 0),
                (-1, 0, 0, 0), (-1, 0, None), (-1, 0, [0]), (-1, 0, {}), ([], 0, 0), ("-1", "0", "0"), (-1, 0, (0,)),
                ((-1, 0, 0),), {-1: 0, 0: 0, 1: 0}, "-100", (None, 0, 0), (-2, 0, 0), (10 ** 12, 0, 0), (2, 0, 0)]
        for thing in [*odd_things(), *near]:
            self.assertIs(False, unchanged(self, lambda told: told in source, thing))
            self.assertIsInstance(unchanged(self, lambda told: stretch_of(source, told), thing), Mismatch)
        self.assertIs(True, unchanged(self, lambda told: told in source, (-1, 0, 0)))


class Equal(unittest.TestCase):
    def test_same_program_and_watcher(self):
        one, other = Source(RING, made(high=1)), Source(tuple(list(RING)), made(high=1))
        self.assertIs(True, one == other)
        self.assertIs(False, one != other)
        self.assertIs(True, one == one)

    def test_another_program_or_watcher(self):
        one = Source(RING, made())
        renamed = (("a", (1,)), ("b", (2,)), ("d", (0,)))
        for other in [Source(LINE, made()), Source(RING, made(gap=2)), Source(RING, made(wide=30)), Source(renamed, made()),
                      Source(RING, made(high=1)), Source(RING, made(marks=(0,)))]:
            self.assertIs(False, one == other)
            self.assertIs(True, one != other)

    def test_the_same_moves_are_not_enough(self):
        one, other = Source((("a", ()),), made()), Source((("a", ()),), made(gap=2))
        self.assertEqual(one.moves, other.moves)
        self.assertIs(False, one == other)
        self.assertIs(False, one == Source((("b", ()),), made()))

    def test_other_objects(self):
        source = Source(RING, made())
        for thing in [*odd_things(), RING, made(), (RING, made()), source.moves]:
            self.assertIs(False, source == thing)
            self.assertIs(False, thing == source)
            self.assertIs(True, source != thing)


class StretchOf(unittest.TestCase):
    def test_without_a_sample_ahead(self):
        source = Source(LINE, made(gap=30, low=1, high=2))
        self.assertEqual(([0, 1], 0), stretch_of(source, (-1, 0, 1)))
        self.assertEqual(([0, 1, 2], 0), stretch_of(source, (-1, 0, 2)))
        self.assertEqual(([0, 1, 2, 3], 3), stretch_of(source, (-1, 3, 3)))
        self.assertEqual(([0, 1, 2, 3], 2), stretch_of(source, (-1, 2, 3)))

    def test_gap_steps_are_gone(self):
        self.assertEqual(([0, 1, 2, 0, 1, 2, 0], 6), stretch_of(Source(RING, made(gap=4)), (0, 0, 0)))
        self.assertEqual(([0, 1, 2, 0], 3), stretch_of(Source(RING, made()), (0, 0, 0)))
        self.assertEqual(([0] * 61, 30), stretch_of(Source(LOOP, made(gap=30, low=30, high=30)), (0, 0, 0)))
        self.assertEqual(([0] * 31, 30), stretch_of(Source(LOOP, made(gap=30, wide=30, high=30)), (0, 0, 0)))

    def test_low_steps_are_gone_unless_there_is_a_mark(self):
        self.assertEqual(([0, 1, 2, 0, 1], 0), stretch_of(Source(RING, made(low=2, high=4)), (-1, 0, 1)))
        self.assertEqual(([0, 1], 0), stretch_of(Source(RING, made(low=2, high=4, marks=(1,))), (-1, 0, 1)))
        self.assertEqual(([0], 0), stretch_of(Source(RING, made(low=2, high=4, marks=(0,))), (-1, 0, 0)))

    def test_no_move(self):
        source = Source(RING, made(wide=1))
        for thing in [(0, 0, 0), (-1, 0, 1), (-1, 3, 3), (3, 0, 0), (-2, 0, 0), [-1, 0, 0], (-1, False, False), (-1, 0)]:
            self.assertRaises(Mismatch, stretch_of, source, thing)
            self.assertRaises(BlameError, stretch_of, source, thing)

    def test_new_each_time(self):
        source = Source(RING, made())
        first = stretch_of(source, (-1, 1, 1))
        first[0].append(7)
        self.assertEqual(([0, 1], 1), stretch_of(source, (-1, 1, 1)))


class ChangedAfterwards(unittest.TestCase):
    def test_what_a_source_was_made_of_may_change(self):
        places, settings = [["a", [1]], ["b", [0]]], [1, 2, 0, 1, [0]]
        source = Source(
            tuple([(sign, tuple(nexts)) for sign, nexts in places]), (*settings[:4], tuple(settings[4])))
        moves = source.moves
        places[0][1].append(0)
        settings[4].append(1)
        self.assertEqual(((("a", (1,)), ("b", (0,))), (1, 2, 0, 1, (0,))), (source.program, source.watcher))
        self.assertEqual(moves, source.moves)

    def test_lists_within_are_refused_so_that_nothing_can_change_later(self):
        for program in [(["a", ()],), (("a", [0]),), [("a", ())]]:
            self.assertRaises(NoProgram, Source, program, made())
        for watcher in [[1, None, 0, 0, ()], (1, None, 0, 0, [])]:
            self.assertRaises(NoWatcher, Source, RING, watcher)

    def test_a_call_that_raises_changes_nothing(self):
        source = Source(RING, made(high=1))
        moves = source.moves
        for thing in odd_things():
            self.assertRaises(Mismatch, stretch_of, source, thing)
        self.assertEqual((RING, made(high=1), moves, 24), (source.program, source.watcher, source.moves, len(source)))

    def test_what_is_returned_may_change(self):
        source = Source(RING, made(high=1))
        for change in (list.clear, list.reverse):
            change(source.moves)
            change(skids(source, 0))
            change(stretch_of(source, (1, 0, 1))[0])
        self.assertEqual(24, len(source.moves))
        self.assertEqual(sorted(source.moves), source.moves)
        self.assertEqual([0, 1], skids(source, 0))
        self.assertEqual(([1, 2, 0, 1], 2), stretch_of(source, (1, 0, 1)))


if __name__ == "__main__":
    unittest.main()
