import unittest

from skidblame.errors import Mismatch, NoFit
from skidblame.fittings import fitting, how_many, is_fitting, reached, run_of, shows_run
from skidblame.programs import made
from skidblame.sources import Source
from tests.things import no_told_lists, odd_things, unchanged

RING = (("a", (1,)), ("b", (2,)), ("c", (0,)))
ring = Source(RING, made(high=1))
line = Source((("a", (1,)), ("b", (2,)), ("c", (3,)), ("d", ())), made(wide=2))
fork = Source((("s", (1, 2)), ("x", (3,)), ("x", (3,)), ("y", (3,))), made(wide=1))
full = Source((("a", tuple(range(8))),) * 8, made(low=1, high=1))


class ToldLists(unittest.TestCase):
    def test_what_is_no_told_list(self):
        for thing in no_told_lists():
            for function in (reached, fitting, how_many):
                self.assertIs(NoFit, type(unchanged(self, function, ring, thing)))
            for other in ([], [(1, 1)], None):
                self.assertIs(NoFit, type(unchanged(self, is_fitting, ring, thing, other)))

    def test_the_empty_list(self):
        for source in (ring, line, fork, full, Source((("a", ()),), made(gap=30, low=30, high=30))):
            self.assertEqual([[-1]], reached(source, []))
            self.assertEqual([], fitting(source, []))
            self.assertEqual(1, how_many(source, []))
            self.assertIs(True, is_fitting(source, [], []))

    def test_signs_that_are_none_of_the_program(self):
        for told in (["x"], ["x", "b"], ["x"] * 30, ["zzzzzzzz"]):
            self.assertEqual([[-1]] + [[]] * len(told), reached(ring, told))
            self.assertIsNone(fitting(ring, told))
            self.assertEqual(0, how_many(ring, told))
            self.assertIs(False, is_fitting(ring, told, [(1, 1)] * len(told)))
        self.assertEqual([[-1], [1], [], []], reached(ring, ["b", "x", "b"]))
        self.assertIsNone(fitting(ring, ["b", "b", "x"]))
        self.assertEqual(0, how_many(ring, ["b", "b", "x"]))

    def test_signs_that_cannot_come(self):
        self.assertEqual([[-1], [3], []], reached(line, ["d", "a"]))
        self.assertIsNone(fitting(line, ["d", "a"]))
        self.assertEqual(0, how_many(line, ["d", "a"]))
        told_at_the_end = Source(line.program, made(low=3, high=3))
        self.assertEqual([[-1], []], reached(told_at_the_end, ["a"]))
        self.assertEqual([[-1], [3], []], reached(told_at_the_end, ["d", "d"]))


class Reached(unittest.TestCase):
    def test_places_by_each_beginning(self):
        self.assertEqual([[-1], [1], [1]], reached(ring, ["b", "b"]))
        self.assertEqual([[-1], [1], [2], [0]], reached(ring, ["b", "c", "a"]))
        self.assertEqual([[-1], [0], [1, 2], [3], [3]], reached(fork, ["s", "x", "y", "y"]))
        self.assertEqual([[-1], list(range(8)), list(range(8))], reached(full, ["a", "a"]))

    def test_the_gap_counts_from_where_a_sample_is_told(self):
        self.assertEqual([[-1], [0], [2], []], reached(line, ["a", "c", "a"]))
        self.assertEqual([[-1], [0], []], reached(line, ["a", "d"]))

    def test_many_signs(self):
        self.assertEqual([[-1]] + [[1]] * 3000, reached(ring, ["b"] * 3000))
        self.assertEqual([[-1], [1]] + [[]] * 90000, reached(ring, ["b"] + ["x"] * 90000))


class Fitting(unittest.TestCase):
    def test_the_least_one(self):
        self.assertEqual([(0, 1), (0, 1)], fitting(ring, ["b", "b"]))
        self.assertEqual([(0, 0), (1, 1), (3, 3)], fitting(fork, ["s", "x", "y"]))
        self.assertEqual([(0, 0)] * 9, fitting(full, ["a"] * 9))

    def test_a_lesser_beginning_that_does_not_go_on_is_not_taken(self):
        dead = Source((("s", (1, 2)), ("x", ()), ("x", (3,)), ("y", (3,))), made(wide=1))
        self.assertEqual([(1, 1)], fitting(dead, ["x"]))
        self.assertEqual([(2, 2), (3, 3)], fitting(dead, ["x", "y"]))
        self.assertEqual([(0, 0), (2, 2), (3, 3), (3, 3)], fitting(dead, ["s", "x", "y", "y"]))

    def test_p_goes_ahead_of_r(self):
        # The pairs of this sign are (0, 2), (1, 2) and (2, 1).
        source = Source((("s", (2,)), ("x", (2,)), ("x", (1,))), made(low=1, high=1))
        self.assertEqual([(0, 2)], fitting(source, ["x"]))
        # Here they are (0, 1) and (0, 2) beside others: the least r of the least p.
        source = Source((("s", (2,)), ("x", (2,)), ("x", (1,))), made(low=1, high=2))
        self.assertEqual([(0, 1)], fitting(source, ["x"]))


class HowMany(unittest.TestCase):
    def test_few_signs(self):
        self.assertEqual([1, 2, 4, 8], [how_many(ring, ["b"] * many) for many in range(4)])
        self.assertEqual([1, 2, 2], [how_many(fork, told) for told in (["s"], ["s", "x"], ["s", "x", "y"])])

    def test_thirty_signs(self):
        self.assertEqual(2 ** 30, how_many(ring, ["b"] * 30))
        self.assertEqual(2 ** 30, how_many(ring, ["a", "b", "c"] * 10))
        self.assertEqual(64 ** 30, how_many(full, ["a"] * 30))

    def test_thirty_signs_with_other_numbers_each_time(self):
        # Each sample is told where it was taken, behind one step; 1 is followed by both, 0 by 1 only.
        source = Source((("a", (1,)), ("a", (0, 1))), made(wide=1))
        numbers = [2, 3]
        while len(numbers) < 30:
            numbers.append(numbers[-1] + numbers[-2])
        self.assertEqual(numbers, [how_many(source, ["a"] * many) for many in range(1, 31)])
        self.assertEqual(2178309, numbers[-1])


class IsFitting(unittest.TestCase):
    def test_right_ones(self):
        for pairs in ([(0, 1), (0, 1)], [(0, 1), (1, 1)], [(1, 1), (0, 1)], [(1, 1), (1, 1)]):
            self.assertIs(True, unchanged(self, is_fitting, ring, ["b", "b"], pairs))

    def test_wrong_ones(self):
        for pairs in ([], [(1, 1)], [(1, 1)] * 3, [(1, 1), (2, 1)], [(2, 1), (1, 1)], [(1, 2), (1, 1)], [(1, 1), (2, 2)],
                      [(-1, 1), (1, 1)], [(1, -1), (1, 1)], [(1, 1), (1, 3)], [(4, 1), (1, 1)], [(10 ** 12, 1), (1, 1)]):
            self.assertIs(False, unchanged(self, is_fitting, ring, ["b", "b"], pairs), pairs)

    def test_things_that_are_nearly_right(self):
        for thing in (((1, 1), (1, 1)), [[1, 1], (1, 1)], [(1, 1), [1, 1]], [(1, 1), (1, True)], [(True, 1), (1, 1)],
                      [(True, True)] * 2, [(1, 1), (1, 1, 1)], [(1,), (1, 1)], [(1, 1), (1, None)], [(1, 1), ("1", 1)],
                      [(1, 1), None], [(1, 1), 1], [(1, 1), (1, [1])], [([1], 1), (1, 1)], [(1, {}), (1, 1)],
                      {(1, 1): (1, 1)}, "11", [(1, (1, 1)), (1, 1)], [1, 1, 1, 1], [[(1, 1), (1, 1)]], ([(1, 1)] * 2,)):
            self.assertIs(False, unchanged(self, is_fitting, ring, ["b", "b"], thing), thing)
        self.assertIs(False, is_fitting(ring, ["a"], [(False, False)]))

    def test_any_object(self):
        for thing in odd_things():
            self.assertIs(False, unchanged(self, is_fitting, ring, ["b"], thing))

    def test_the_next_sample_hangs_on_where_the_one_before_was_told(self):
        self.assertIs(True, is_fitting(line, ["a", "b", "d"], [(0, 0), (1, 1), (3, 3)]))
        self.assertIs(False, is_fitting(line, ["a", "a"], [(0, 0), (0, 0)]))
        self.assertIs(False, is_fitting(line, ["a", "d"], [(0, 0), (3, 3)]))

    def test_a_long_one(self):
        self.assertIs(True, is_fitting(ring, ["b"] * 30000, [(0, 1), (1, 1)] * 15000))
        self.assertIs(False, is_fitting(ring, ["b"] * 30000, [(0, 1), (1, 1)] * 14999 + [(0, 1), (2, 1)]))


class RunOf(unittest.TestCase):
    def test_no_pairs(self):
        for source in (ring, line, fork, full):
            self.assertEqual(([0], []), run_of(source, []))

    def test_one_and_more_pairs(self):
        self.assertEqual(([0, 1, 2, 0, 1], [(0, 1), (3, 4)]), run_of(ring, [(0, 1), (0, 1)]))
        self.assertEqual(([0, 1, 2, 3], [(1, 1), (3, 3)]), run_of(line, [(1, 1), (3, 3)]))
        self.assertEqual(([0, 2, 3, 3], [(0, 0), (1, 1), (2, 2), (3, 3)]), run_of(fork, [(0, 0), (2, 2), (3, 3), (3, 3)]))

    def test_steps_of_gap_and_skid(self):
        loop = Source((("a", (0,)),), made(gap=30, wide=30, low=30, high=30))
        self.assertEqual(([0] * 91, [(0, 30), (60, 90)]), run_of(loop, [(0, 0), (0, 0)]))

    def test_no_fitting_of_any_told_list(self):
        near = [((1, 1),), [[1, 1]], [(1, True)], [(False, False)], [(0, 0, 0)], [(0,)], [(2, 1)], [(1, -1)], [(-1, 1)],
                [(0, 0), (1, None)], [(0, 0), None], {(0, 0): 0}, [(3, 3)], [(0, 0), (0, 2)]]
        for thing in near + [thing for thing in odd_things() if thing != []]:
            self.assertIs(Mismatch, type(unchanged(self, run_of, ring, thing)))

    def test_a_long_one(self):
        pairs = [(0, 1), (1, 1)] * 5000
        run, moments = run_of(ring, pairs)
        self.assertIs(True, shows_run(ring, pairs, (run, moments)))
        # From 1 to 1 by three steps, from 1 to 0 by two and then a skid of one.
        self.assertEqual((30000 - 3 + 1, 10000), (len(run) - 1, len(moments)))


class ShowsRun(unittest.TestCase):
    def yes(self, source, pairs, run, moments):
        self.assertIs(True, unchanged(self, shows_run, source, pairs, (run, moments)), (run, moments))

    def no(self, source, pairs, run, moments):
        self.assertIs(False, unchanged(self, shows_run, source, pairs, (run, moments)), (run, moments))

    def test_no_pairs(self):
        for run in ([0], [0, 1], [0, 1, 2, 0]):
            self.yes(ring, [], run, [])
        for run in ([], [1], [0, 2], [0, 3], [-1], [False], (0,), None, [0, True]):
            self.no(ring, [], run, [])
        for moments in ([(0, 0)], (), None, {}, [()], [[]], 0):
            self.no(ring, [], [0], moments)

    def test_more_steps_than_needed(self):
        self.yes(ring, [(0, 1)], [0, 1], [(0, 1)])
        self.yes(ring, [(0, 1)], [0, 1, 2, 0, 1], [(3, 4)])
        self.yes(ring, [(0, 1)], [0, 1, 2, 0, 1, 2], [(3, 4)])

    def test_the_run_may_go_on_behind_the_last_telling_as_a_run_only(self):
        self.yes(ring, [(0, 1)], [0, 1, 2, 0, 1, 2], [(0, 1)])
        self.no(ring, [(0, 1)], [0, 1, 0], [(0, 1)])
        self.no(ring, [(0, 1)], [0, 1, 3], [(0, 1)])
        self.no(ring, [(0, 1)], [0, 1, True], [(0, 1)])
        self.no(line, [(3, 3)], [0, 1, 2, 3, 3], [(3, 3)])

    def test_a_run_begins_with_place_0(self):
        self.yes(ring, [(2, 2)], [0, 1, 2], [(2, 2)])
        self.no(ring, [(2, 2)], [1, 2], [(1, 1)])
        self.no(ring, [(2, 2)], [2], [(0, 0)])

    def test_moments_are_at_the_places(self):
        run = [0, 1, 2, 0, 1, 2]
        self.yes(ring, [(0, 1), (1, 2)], run, [(0, 1), (4, 5)])
        for moments in ([(0, 0), (4, 5)], [(1, 1), (4, 5)], [(0, 1), (4, 4)], [(0, 1), (5, 5)], [(3, 4), (4, 5)],
                        [(0, 4), (4, 5)], [(0, 1)], [(0, 1), (4, 5), (5, 5)], [(4, 5), (0, 1)], [(0, 1), (4, 6)],
                        [(-6, 1), (4, 5)], [(0, 1), (-2, -1)], [(0, 1), (4, -1)], [(0, -5), (4, 5)], []):
            self.no(ring, [(0, 1), (1, 2)], run, moments)

    def test_a_telling_is_not_ahead_of_its_taking(self):
        loop = Source((("a", (0,)),), made(high=1))
        self.yes(loop, [(0, 0)], [0, 0], [(0, 1)])
        self.no(loop, [(0, 0)], [0, 0], [(1, 0)])

    def test_steps_of_the_gap(self):
        loop = (("a", (0,)),)
        for gap, wide, right in ((1, 1, [1]), (2, 3, [2, 3]), (3, 3, [3]), (4, None, range(4, 12)), (2, 9, range(2, 10))):
            source = Source(loop, made(gap=gap, wide=wide, high=1))
            for steps in range(12):
                tell = self.yes if steps in right else self.no
                tell(source, [(0, 0)] * 2, [0] * 20, [(3, 4), (4 + steps, 5 + steps)])
        thirty = Source(loop, made(gap=30, wide=30))
        for steps in range(28, 33):
            tell = self.yes if steps == 30 else self.no
            tell(thirty, [(0, 0)] * 2, [0] * 40, [(2, 2), (2 + steps, 2 + steps)])

    def test_the_first_sample_has_no_gap(self):
        source = Source((("a", (0,)),), made(gap=5, wide=6))
        for moment in range(12):
            self.yes(source, [(0, 0)], [0] * 12, [(moment, moment)])

    def test_steps_of_the_skid(self):
        source = Source((("a", (0,)),), made(low=2, high=4))
        for steps in range(7):
            tell = self.yes if 2 <= steps <= 4 else self.no
            tell(source, [(0, 0)], [0] * 9, [(1, 1 + steps)])

    def test_a_skid_that_comes_to_a_mark_ends_there(self):
        marked = Source(RING, made(low=2, high=4, marks=(1,)))
        self.yes(marked, [(0, 1)], [0, 1, 2, 0, 1], [(0, 1)])
        self.no(marked, [(0, 1)], [0, 1, 2, 0, 1], [(0, 4)])
        self.yes(marked, [(1, 1)], [0, 1, 2, 0, 1], [(1, 1)])
        self.no(marked, [(1, 1)], [0, 1, 2, 0, 1], [(1, 4)])
        self.yes(marked, [(2, 1)], [0, 1, 2, 0, 1], [(2, 4)])
        self.no(marked, [(2, 2)], [0, 1, 2, 0, 1, 2], [(2, 5)])

    def test_a_skid_that_goes_by_a_mark_on_one_of_two_ways(self):
        for low in (0, 1, 2):
            parted = Source((("s", (1, 2)), ("x", (3,)), ("y", (3,)), ("z", (0,))), made(low=low, high=4, marks=(1,)))
            self.yes(parted, [(0, 3)], [0, 2, 3], [(0, 2)])
            self.no(parted, [(0, 3)], [0, 1, 3], [(0, 2)])
            self.no(parted, [(3, 3)], [0, 2, 3, 0, 1, 3], [(2, 5)])

    def test_a_skid_to_an_end_has_fewer_than_low_steps(self):
        source = Source(line.program, made(low=3, high=5))
        self.yes(source, [(2, 3)], [0, 1, 2, 3], [(2, 3)])
        self.yes(source, [(3, 3)], [0, 1, 2, 3], [(3, 3)])
        self.no(source, [(2, 2)], [0, 1, 2, 3], [(2, 2)])

    def test_the_other_pairs_count(self):
        self.no(ring, [(0, 0)], [0, 1], [(0, 1)])
        self.no(ring, [(0, 1), (0, 1)], [0, 1], [(0, 1)])
        self.no(ring, [(0, 1)], [0, 1, 2], [(0, 2)])

    def test_things_that_are_nearly_right(self):
        right = ([0, 1, 2], [(0, 1)])
        self.assertIs(True, shows_run(ring, [(0, 1)], right))
        for thing in (list(right), (*right, []), right[:1], ((0, 1, 2), [(0, 1)]), ([0, 1, 2], ((0, 1),)),
                      ([0, 1, 2], [[0, 1]]), ([0, 1, 2], [(0, True)]), ([0, 1, 2], [(False, 1)]), ([False, 1, 2], [(0, 1)]),
                      ([0, True, 2], [(0, 1)]), ([0, 1, 2], [(0, 1, 1)]), ([0, 1, 2], [(0,)]), ([0, 1, 2], [0, 1]),
                      ([0, 1, 2], [(None, 1)]), ([0, 1, 2], [("0", "1")]), ([0, 1, 2], {(0, 1): 0}), ({0: 1}, [(0, 1)]),
                      ("012", [(0, 1)]), ([0, 1, 2], None), (None, None), ([0, [1], 2], [(0, 1)]), ([(0, 1)], [0, 1, 2])):
            self.assertIs(False, unchanged(self, shows_run, ring, [(0, 1)], thing), thing)

    def test_any_object(self):
        for thing in odd_things():
            self.assertIs(False, unchanged(self, shows_run, ring, [(0, 1)], thing))
            self.assertIs(False, unchanged(self, shows_run, ring, [(0, 1)], ([0, 1], thing)))
            self.assertIs(False, unchanged(self, shows_run, ring, [(0, 1)], (thing, [(0, 1)])))

    def test_no_run_shows_what_is_no_fitting(self):
        for thing in ([(2, 1)], [(0, 2)], ((0, 1),), [[0, 1]], [(0, True)], [(False, 1)], None, 0, [(0, 1, 1)], {(0, 1): 1}):
            self.assertIs(False, unchanged(self, shows_run, ring, thing, ([0, 1, 2], [(0, 1)])), thing)

    def test_moments_of_large_numbers(self):
        self.no(ring, [(0, 1)], [0, 1], [(0, 10 ** 12)])
        self.no(ring, [(0, 1)], [0, 1], [(-10 ** 12, 1)])
        self.no(ring, [(0, 1)] * 20000, [0, 1, 2] * 20000, [(0, 59998)] * 20000)


if __name__ == "__main__":
    unittest.main()
