import unittest

from skidblame.errors import NoFit, NoWeights
from skidblame.programs import made
from skidblame.sources import Source
from skidblame.weights import counts, greatest, least, shows_greatest, shows_least, shows_none, surely
from tests.things import no_told_lists, no_weights, odd_things, unchanged

RING = (("a", (1,)), ("b", (2,)), ("c", (0,)))
ring = Source(RING, made(high=1))
line = Source((("a", (1,)), ("b", (2,)), ("c", (3,)), ("d", ())), made(wide=2))
fork = Source((("s", (1, 2)), ("x", (3,)), ("x", (3,)), ("y", (3,))), made(wide=1))
dead = Source((("s", (1, 2)), ("x", ()), ("x", (3,)), ("y", (3,))), made(wide=1))
W = (1, 0, 0)


class Refused(unittest.TestCase):
    def refuses(self, error, function, *things):
        self.assertIs(error, type(unchanged(self, function, ring, *things)), (function, things))

    def test_what_is_no_told_list(self):
        for thing in no_told_lists():
            for function in (least, greatest):
                self.refuses(NoFit, function, thing, W)
                self.refuses(NoFit, function, thing, None)
            for function in (shows_least, shows_greatest):
                self.refuses(NoFit, function, thing, W, (0, [], [{-1: 0}]))
                self.refuses(NoFit, function, thing, None, None)
            self.refuses(NoFit, shows_none, thing, [{-1: 0}, {}])
            self.refuses(NoFit, counts, thing, (0,))
            self.refuses(NoFit, surely, thing)

    def test_what_is_no_weights(self):
        for thing in no_weights(3):
            for told in ([], ["b"], ["x"]):
                for function in (least, greatest):
                    self.refuses(NoWeights, function, told, thing)
                for function in (shows_least, shows_greatest):
                    self.refuses(NoWeights, function, told, thing, (0, [], [{-1: 0}]))
                    self.refuses(NoWeights, function, told, thing, None)

    def test_one_weight_for_each_place(self):
        for many in range(1, 9):
            source = Source((("a", ()),) * many, made())
            for number in range(10):
                if number == many:
                    self.assertEqual((0, [], [{-1: 0}]), least(source, [], (0,) * number))
                else:
                    self.assertRaises(NoWeights, least, source, [], (0,) * number)
                    self.assertRaises(NoWeights, greatest, source, [], (0,) * number)

    def test_no_error_for_signs_that_are_none_of_the_program(self):
        self.assertIsNone(least(ring, ["x"], W))
        self.assertIsNone(greatest(ring, ["b", "x"], W))
        self.assertIs(False, shows_least(ring, ["x"], W, (0, [], [{-1: 0}, {}])))
        self.assertIsNone(counts(ring, ["x"], (0,)))
        self.assertRaises(NoFit, surely, ring, ["x"])
        self.assertRaises(NoFit, surely, ring, ["b", "x", "b"])
        self.assertRaises(NoFit, surely, line, ["d", "a"])
        self.assertRaises(NoFit, surely, Source((("a", ()),), made()), ["a", "a"])


class LeastAndGreatest(unittest.TestCase):
    def test_the_empty_list(self):
        for function in (least, greatest):
            for weights in (W, (0, 0, 0), (10 ** 6,) * 3, (-10 ** 6,) * 3):
                self.assertEqual((0, [], [{-1: 0}]), function(ring, [], weights))

    def test_values_and_fittings(self):
        self.assertEqual((0, [(1, 1), (1, 1)]), least(ring, ["b", "b"], W)[:2])
        self.assertEqual((2, [(0, 1), (0, 1)]), greatest(ring, ["b", "b"], W)[:2])
        self.assertEqual((-3, [(0, 1), (0, 1), (0, 1)]), least(ring, ["b"] * 3, (-1, 0, 5))[:2])
        self.assertEqual((5, [(0, 0), (2, 2), (3, 3)]), greatest(fork, ["s", "x", "y"], (1, 2, 4, 0))[:2])
        self.assertEqual((3, [(0, 0), (1, 1), (3, 3)]), least(fork, ["s", "x", "y"], (1, 2, 4, 0))[:2])

    def test_the_least_fitting_of_those_with_the_value(self):
        for function in (least, greatest):
            self.assertEqual((0, [(0, 1), (0, 1)]), function(ring, ["b", "b"], (0, 0, 0))[:2])
            self.assertEqual((6, [(0, 1), (0, 1)]), function(ring, ["b", "b"], (3, 3, 9))[:2])
            self.assertEqual((0, [(0, 0), (1, 1), (3, 3)]), function(fork, ["s", "x", "y"], (0, 0, 0, 0))[:2])

    def test_a_lighter_beginning_that_does_not_go_on_is_not_taken(self):
        self.assertEqual((5, [(2, 2), (3, 3)]), least(dead, ["x", "y"], (0, 1, 5, 0))[:2])
        self.assertEqual((-5, [(2, 2), (3, 3)]), greatest(dead, ["x", "y"], (0, 1, -5, 0))[:2])

    def test_a_dearer_beginning_that_saves_later(self):
        # 1 is the lighter one, but only 2 leads to 4, which weighs so little.
        source = Source((("s", (1, 2)), ("x", (3,)), ("x", (4,)), ("y", ()), ("y", ())), made(wide=1))
        self.assertEqual((-7, [(0, 0), (2, 2), (4, 4)]), least(source, ["s", "x", "y"], (0, 1, 2, 0, -9))[:2])
        self.assertEqual((7, [(0, 0), (2, 2), (4, 4)]), greatest(source, ["s", "x", "y"], (0, -1, -2, 0, 9))[:2])

    def test_weights_at_their_limits(self):
        source = Source((("a", (0, 1)), ("a", (0, 1))), made(low=1, high=1))
        weights = (10 ** 6, -10 ** 6)
        self.assertEqual((-30 * 10 ** 6, [(1, 0)] * 30), least(source, ["a"] * 30, weights)[:2])
        self.assertEqual((30 * 10 ** 6, [(0, 0)] * 30), greatest(source, ["a"] * 30, weights)[:2])

    def test_bounds_show_the_values(self):
        for told in ([], ["b"], ["b", "b"], ["a", "b", "c"] * 10):
            for weights in (W, (0, 0, 0), (-3, 10 ** 6, -10 ** 6)):
                self.assertIs(True, shows_least(ring, told, weights, least(ring, told, weights)))
                self.assertIs(True, shows_greatest(ring, told, weights, greatest(ring, told, weights)))

    def test_bounds_have_ascending_keys(self):
        source = Source((("a", (0, 1, 2, 3)),) * 4, made(high=2))
        for function in (least, greatest):
            rows = function(source, ["a"] * 4, (4, -2, 3, 0))[2]
            self.assertEqual([[-1]] + [[0, 1, 2, 3]] * 4, [list(row) for row in rows])

    def test_many_signs(self):
        self.assertEqual(0, least(ring, ["b"] * 3000, W)[0])
        self.assertEqual(3000, greatest(ring, ["b"] * 3000, W)[0])
        self.assertIsNone(least(ring, ["b"] + ["x"] * 50000, W))


class ShowsLeast(unittest.TestCase):
    told = ["b", "b"]

    def yes(self, thing, weights=W, told=("b", "b"), source=ring, shows=shows_least):
        self.assertIs(True, unchanged(self, shows, source, list(told), weights, thing), thing)

    def no(self, thing, weights=W, told=("b", "b"), source=ring, shows=shows_least):
        self.assertIs(False, unchanged(self, shows, source, list(told), weights, thing), thing)

    def test_right_and_one_off(self):
        pairs = [(1, 1), (1, 1)]
        self.yes((0, pairs, [{-1: 0}, {1: 0}, {1: 0}]))
        for value in (-1, 1):
            self.no((value, pairs, [{-1: 0}, {1: 0}, {1: 0}]))
        for row in (0, 1, 2):
            for step in (-1, 1):
                bounds = [{-1: 0}, {1: 0}, {1: 0}]
                bounds[row][-1 if row == 0 else 1] += step
                self.no((0, pairs, bounds))

    def test_any_bounds_will_do(self):
        # The row of x may have less than 5 for the dearer place, but not so little that it counts.
        pairs, weights, told = [(0, 0), (1, 1), (3, 3)], (0, 1, 5, 0), ["s", "x", "y"]
        for dear in (5, 4, 2, 1):
            self.yes((1, pairs, [{-1: 0}, {0: 0}, {1: 1, 2: dear}, {3: 1}]), weights, told, fork)
        for dear in (6, 0, -1):
            self.no((1, pairs, [{-1: 0}, {0: 0}, {1: 1, 2: dear}, {3: 1}]), weights, told, fork)
        self.no((1, pairs, [{-1: 0}, {0: 0}, {1: 1, 2: 0}, {3: 0}]), weights, told, fork)
        self.no((0, pairs, [{-1: 0}, {0: 0}, {1: 1, 2: 0}, {3: 0}]), weights, told, fork)
        # A key more from which the next sign cannot come may have any value.
        for spare in (-10 ** 12, 10 ** 12):
            self.yes((1, pairs, [{-1: 0}, {0: 0, 1: spare}, {0: spare, 1: 1, 2: 5}, {3: 1}]), weights, told, fork)
        self.no((1, pairs, [{-1: 0}, {0: 0, 1: 0}, {1: 1, 2: 5, 3: 0}, {3: 1}]), weights, told, fork)

    def test_a_key_more_counts_as_a_key(self):
        pairs = [(1, 1), (1, 1)]
        # From each place of the ring 0 and 1 can be taken and told at 1.
        self.yes((0, pairs, [{-1: 0}, {1: 0, 0: 5}, {1: 0}]))
        self.yes((0, pairs, [{-1: 0}, {0: 0, 1: 0, 2: 0}, {1: 0}]))
        self.no((0, pairs, [{-1: 0}, {1: 0, 0: -1}, {1: 0}]))
        self.yes((0, pairs, [{-1: 0}, {1: 0}, {1: 0, 0: 3, 2: 0}]))
        self.no((0, pairs, [{-1: 0}, {1: 0}, {1: 0, 0: -1}]))
        self.no((0, pairs, [{-1: 0}, {1: 0}, {1: 1, 0: 0}]))
        self.no((0, pairs, [{-1: 0, 1: 0}, {1: 0}, {1: 0}]))
        for key in (3, -1, -2, 10 ** 12, True + 7, None, "1", (1,), (), ""):
            self.no((0, pairs, [{-1: 0}, {1: 0, key: 0}, {1: 0}]))
            self.no((0, pairs, [{-1: 0}, {1: 0}, {1: 0, key: 0}]))
            if key != -1:
                self.no((0, pairs, [{-1: 0, key: 0}, {1: 0}, {1: 0}]))

    def test_a_key_less_and_an_empty_dict(self):
        pairs = [(1, 1), (1, 1)]
        for bounds in ([{}, {1: 0}, {1: 0}], [{-1: 0}, {}, {1: 0}], [{-1: 0}, {1: 0}, {}], [{-1: 0}, {}, {}],
                       [{-1: 0}, {0: 0}, {1: 0}], [{-1: 0}, {1: 0}, {0: 0}], [{0: 0}, {1: 0}, {1: 0}]):
            self.no((0, pairs, bounds))
        self.yes((0, [(1, 1)], [{-1: 0}, {1: 0, 2: 1}], ), W, "b")
        # Two places have the sign: neither of them may be left out.
        self.yes((0, [(2, 2)], [{-1: 0}, {1: 1, 2: 0}]), (0, 1, 0, 0), "x", fork)
        self.no((0, [(2, 2)], [{-1: 0}, {2: 0}]), (0, 1, 0, 0), "x", fork)
        self.no((1, [(1, 1)], [{-1: 0}, {1: 1}]), (0, 1, 0, 0), "x", fork)

    def test_a_dict_more_and_a_dict_less(self):
        pairs = [(1, 1), (1, 1)]
        for bounds in ([], [{-1: 0}], [{-1: 0}, {1: 0}], [{1: 0}, {1: 0}], [{-1: 0}, {1: 0}, {1: 0}, {1: 0}],
                       [{-1: 0}, {-1: 0}, {1: 0}, {1: 0}], [{-1: 0}, {1: 0}, {1: 0}, {}]):
            self.no((0, pairs, bounds))

    def test_any_fitting_of_this_weight_will_do(self):
        zero = (0, 0, 0)
        for pairs in ([(0, 1), (0, 1)], [(0, 1), (1, 1)], [(1, 1), (0, 1)], [(1, 1), (1, 1)]):
            self.yes((0, pairs, [{-1: 0}, {1: 0}, {1: 0}]), zero)
        for pairs in ([(0, 1), (0, 1)], [(0, 1), (1, 1)], [(1, 1), (0, 1)], [(1, 1)], [], [(1, 1)] * 3, [(1, 1), (2, 1)],
                      [(1, 1), (2, 2)], [(1, 1), (1, True)], ((1, 1), (1, 1)), [[1, 1], [1, 1]], None, 0):
            self.no((0, pairs, [{-1: 0}, {1: 0}, {1: 0}]))

    def test_a_value_that_is_not_the_least(self):
        self.no((1, [(0, 1), (1, 1)], [{-1: 0}, {1: 0}, {1: 0}]))
        self.no((1, [(0, 1), (1, 1)], [{-1: 0}, {1: 0}, {1: 1}]))
        self.no((1, [(0, 1), (1, 1)], [{-1: 0}, {1: 1}, {1: 1}]))

    def test_the_empty_list(self):
        for shows in (shows_least, shows_greatest):
            self.yes((0, [], [{-1: 0}]), told=(), shows=shows)
            for thing in ((1, [], [{-1: 0}]), (0, [], []), (0, [], [{}]), (0, [], [{-1: 1}]), (0, [], [{-1: False}]),
                          (False, [], [{-1: 0}]), (0, (), [{-1: 0}]), (0, [], [{-1: 0}, {}]), (0, [], ({-1: 0},)),
                          (0, [(0, 0)], [{-1: 0}]), (0, [], [{0: 0}]), (0, [], {-1: 0}), (0, []), [0, [], [{-1: 0}]]):
                self.no(thing, told=(), shows=shows)

    def test_greatest(self):
        pairs = [(0, 1), (0, 1)]
        self.yes((2, pairs, [{-1: 0}, {1: 1}, {1: 2}]), shows=shows_greatest)
        self.yes((2, pairs, [{-1: 0}, {1: 1}, {1: 2, 0: -7, 2: 2}]), shows=shows_greatest)
        self.yes((2, pairs, [{-1: 0}, {1: 1, 0: 1}, {1: 2}]), shows=shows_greatest)
        for thing in ((2, pairs, [{-1: 0}, {1: 1}, {1: 1}]), (2, pairs, [{-1: 0}, {1: 0}, {1: 2}]),
                      (2, pairs, [{-1: 0}, {1: 2}, {1: 2}]), (2, pairs, [{-1: 0}, {1: 1}, {1: 3}]),
                      (2, pairs, [{-1: 0}, {1: 1}, {1: 2, 0: 3}]), (2, pairs, [{-1: 0}, {1: 1, 0: 2}, {1: 2}]),
                      (2, pairs, [{-1: 0}, {1: 1}]), (2, pairs, [{-1: 0}, {1: 1}, {}]), (2, pairs, [{-1: 0}, {}, {1: 2}]),
                      (1, pairs, [{-1: 0}, {1: 1}, {1: 2}]), (3, pairs, [{-1: 0}, {1: 1}, {1: 3}]),
                      (1, [(0, 1), (1, 1)], [{-1: 0}, {1: 1}, {1: 2}]), (-2, pairs, [{-1: 0}, {1: -1}, {1: -2}])):
            self.no(thing, shows=shows_greatest)
        self.no((0, [(1, 1), (1, 1)], [{-1: 0}, {1: 0}, {1: 0}]), shows=shows_greatest)
        self.no((2, pairs, [{-1: 0}, {1: 1}, {1: 2}]))
        for row in (0, 1, 2):
            for step in (-1, 1):
                bounds = [{-1: 0}, {1: 1}, {1: 2}]
                bounds[row][-1 if row == 0 else 1] += step
                self.no((2, pairs, bounds), shows=shows_greatest)

    def test_things_that_are_nearly_right(self):
        pairs = [(1, 1), (1, 1)]
        for thing in ([0, pairs, [{-1: 0}, {1: 0}, {1: 0}]], (0, pairs), (0, pairs, [{-1: 0}, {1: 0}, {1: 0}], 0),
                      (False, pairs, [{-1: 0}, {1: 0}, {1: 0}]), (None, pairs, [{-1: 0}, {1: 0}, {1: 0}]),
                      ("0", pairs, [{-1: 0}, {1: 0}, {1: 0}]), (0, pairs, ({-1: 0}, {1: 0}, {1: 0})),
                      (0, pairs, [{-1: 0}, {True: 0}, {1: 0}]), (0, pairs, [{-1: 0}, {1: 0}, {True: 0}]),
                      (0, pairs, [{-1: 0}, {1: False}, {1: 0}]), (0, pairs, [{-1: 0}, {1: 0}, {1: False}]),
                      (0, pairs, [{-1: False}, {1: 0}, {1: 0}]), (0, pairs, [{-1: 0}, {1: None}, {1: 0}]),
                      (0, pairs, [{-1: 0}, {1: 0}, {1: "0"}]), (0, pairs, [{-1: 0}, {1: (0,)}, {1: 0}]),
                      (0, pairs, [{-1: 0}, [(1, 0)], {1: 0}]), (0, pairs, [[(-1, 0)], {1: 0}, {1: 0}]),
                      (0, pairs, [{-1: 0}, {1: 0}, None]), (0, pairs, [-1, 1, 1]), (0, pairs, [{-1: 0}, {"1": 0}, {1: 0}]),
                      (0, pairs, {0: {-1: 0}, 1: {1: 0}, 2: {1: 0}}), (pairs, 0, [{-1: 0}, {1: 0}, {1: 0}])):
            self.no(thing)
        self.no((True, [(0, 1)], [{-1: 0}, {1: 1}]), told="b", shows=shows_greatest)
        self.no((1, [(0, 1)], [{-1: 0}, {1: True}]), told="b", shows=shows_greatest)
        self.yes((1, [(0, 1)], [{-1: 0}, {1: 1}]), told="b", shows=shows_greatest)

    def test_any_object(self):
        for thing in odd_things():
            for shows in (shows_least, shows_greatest):
                self.no(thing, shows=shows)
                self.no((0, [(1, 1), (1, 1)], thing), shows=shows)
                self.no((0, thing, [{-1: 0}, {1: 0}, {1: 0}]), shows=shows)
                self.no((thing, [(1, 1), (1, 1)], [{-1: 0}, {1: 0}, {1: 0}]), shows=shows)
                self.no((0, [(1, 1), (1, 1)], [{-1: 0}, thing, {1: 0}]), shows=shows)
                self.no((0, [(1, 1), (1, 1)], [thing, {1: 0}, {1: 0}]), shows=shows)

    def test_without_a_fitting(self):
        for thing in ((0, [], [{-1: 0}, {}]), (0, [(1, 1)], [{-1: 0}, {1: 0}]), (0, None, [{-1: 0}, {}]),
                      (None, None, [{-1: 0}, {}]), None):
            for shows in (shows_least, shows_greatest):
                self.no(thing, told=["x"], shows=shows)


class ShowsNone(unittest.TestCase):
    def yes(self, source, told, thing):
        self.assertIs(True, unchanged(self, shows_none, source, told, thing), thing)

    def no(self, source, told, thing):
        self.assertIs(False, unchanged(self, shows_none, source, told, thing), thing)

    def test_no_fitting(self):
        self.yes(ring, ["x"], [{-1: 0}, {}])
        self.yes(ring, ["x", "b"], [{-1: 0}, {}, {}])
        self.yes(ring, ["b", "x"], [{-1: 0}, {1: 0}, {}])
        self.yes(line, ["c", "d", "a"], [{-1: 0}, {2: 0}, {3: 0}, {}])

    def test_bounds_lie_at_0_or_below(self):
        self.yes(ring, ["b", "x"], [{-1: 0}, {1: -5}, {}])
        self.no(ring, ["b", "x"], [{-1: 0}, {1: 1}, {}])
        self.yes(ring, ["b", "b", "x"], [{-1: 0}, {1: -5}, {1: -6}, {}])
        self.no(ring, ["b", "b", "x"], [{-1: 0}, {1: -5}, {1: -4}, {}])

    def test_keys_more_and_less(self):
        self.yes(ring, ["b", "x"], [{-1: 0}, {0: 3, 1: 0, 2: 4}, {}])
        self.no(ring, ["b", "x"], [{-1: 0}, {0: 0}, {}])
        self.no(ring, ["b", "x"], [{-1: 0}, {}, {}])
        self.no(ring, ["b", "x"], [{-1: 0}, {1: 0}, {0: 0}])
        self.no(ring, ["b", "x"], [{-1: 0}, {1: 0, 3: 0}, {}])
        self.no(ring, ["b", "x"], [{-1: 0}, {1: 0, -1: 0}, {}])
        self.no(line, ["c", "a"], [{-1: 0}, {0: 0, 2: 0}, {0: 0}])
        # A key more from which the next sign can come asks for its key, and so no dict behind it is empty.
        self.yes(line, ["c", "c"], [{-1: 0}, {2: 0, 3: 0}, {}])
        self.no(line, ["c", "c"], [{-1: 0}, {1: 0, 2: 0}, {}])

    def test_an_empty_dict_in_the_middle(self):
        self.yes(ring, ["x", "b"], [{-1: 0}, {}, {}])
        self.no(ring, ["x", "b"], [{-1: 0}, {}, {1: 0}])
        self.no(ring, ["x", "b"], [{-1: 0}, {0: 0}, {}])
        self.yes(ring, ["x", "b", "x"], [{-1: 0}, {}, {1: 0}, {}])
        self.no(ring, ["b", "b", "x"], [{-1: 0}, {1: 0}, {}, {}])

    def test_dicts_more_and_less(self):
        for thing in ([], [{}], [{-1: 0}], [{}, {}], [{-1: 0}, {}, {}], [{-1: 0}, {-1: 0}], [{-1: 1}, {}], [{-1: 0, 0: 0}, {}]):
            self.no(ring, ["x"], thing)

    def test_a_list_with_fittings(self):
        for thing in ([{-1: 0}, {}], [{-1: 0}, {1: 0}], [{-1: 0}], [{}, {}]):
            self.no(ring, ["b"], thing)
        for thing in ([{-1: 0}], [{}], [], [{-1: 0}, {}]):
            self.no(ring, [], thing)

    def test_things_that_are_nearly_right(self):
        for thing in (({-1: 0}, {}), [{-1: False}, {}], [{-1: 0}, []], [{-1: 0}, None], [{-1: 0}, ()], {0: {-1: 0}, 1: {}},
                      [[-1, 0], {}], [{-1: None}, {}], [{"-1": 0}, {}], None, 0, "", True):
            self.no(ring, ["x"], thing)
        for thing in ([{-1: 0}, {True: 0}, {}], [{-1: 0}, {1: False}, {}], [{-1: 0}, {1: None}, {}]):
            self.no(ring, ["b", "x"], thing)

    def test_any_object(self):
        for thing in odd_things():
            self.no(ring, ["x"], thing)
            if thing != {}:
                self.no(ring, ["x"], [{-1: 0}, thing])
            self.no(ring, ["x"], [thing, {}])


class Counts(unittest.TestCase):
    def test_some_places(self):
        self.assertEqual([(0, 2), (0, 2), (0, 0), (0, 2), (2, 2), (0, 2), (2, 2), (0, 0)], [
            counts(ring, ["b", "b"], places)
            for places in ((0,), (1,), (2,), (0, 2), (0, 1), (2, 1), (2, 0, 1), ())])

    def test_no_places_and_all(self):
        for source, told in ((ring, ["b"] * 30), (fork, ["s", "x", "y"]), (line, ["a", "c"]), (ring, [])):
            self.assertEqual((0, 0), counts(source, told, ()))
            self.assertEqual((len(told),) * 2, counts(source, told, tuple(range(len(source.program)))))

    def test_each_sample_counts(self):
        self.assertEqual((0, 30), counts(ring, ["b"] * 30, (0,)))
        self.assertEqual((1, 2), counts(ring, ["a", "b"], (2, 0)))
        self.assertEqual((0, 1), counts(fork, ["s", "x", "y"], (2,)))

    def test_without_a_fitting(self):
        for told in (["x"], ["b", "x"]):
            for places in ((), (0,), (0, 1, 2)):
                self.assertIsNone(counts(ring, told, places))


class Surely(unittest.TestCase):
    def test_pairs(self):
        self.assertEqual([(0, 2), (1, 2)], surely(ring, ["b", "b"]))
        self.assertEqual([(0, 1), (0, 2), (0, 3), (3, 0), (3, 1), (3, 2)], surely(fork, ["s", "x", "y"]))
        self.assertEqual(
            [(0, 1), (1, 0), (2, 0), (2, 1), (2, 3), (3, 0), (3, 1), (3, 2)], surely(dead, ["x", "y"]))

    def test_the_same_number_both_ways(self):
        self.assertEqual([(0, 1), (0, 2), (1, 0), (1, 2)], surely(Source(RING, made(wide=1)), ["a", "b"]))

    def test_the_empty_list(self):
        self.assertEqual([(0, 1), (0, 2), (1, 0), (1, 2), (2, 0), (2, 1)], surely(ring, []))
        self.assertEqual([], surely(Source((("a", ()),), made()), []))
        self.assertEqual(56, len(surely(Source((("a", ()),) * 8, made()), [])))

    def test_thirty_signs(self):
        self.assertEqual([(0, 2), (1, 2)], surely(ring, ["b"] * 30))


if __name__ == "__main__":
    unittest.main()
