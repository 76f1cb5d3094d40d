import unittest

from skidblame.errors import NoWeights
from skidblame.fittings import is_fitting
from skidblame.programs import made
from skidblame.sources import Source
from skidblame.spread import growth, shows_growth, shows_spread, spread_bounds, spread_of, widest
from tests.plainfits import weigh
from tests.things import no_weights, odd_things, unchanged

ring = Source((("a", (1,)), ("b", (2,)), ("c", (0,))), made(wide=1, high=1))
fork = Source((("s", (1, 2)), ("x", (3,)), ("x", (3,)), ("y", (3,))), made(wide=1))
free = Source((("a", (1, 2)), ("b", (0,)), ("b", (0,))), made(gap=2, wide=2))
# Two ways that the signs do not tell apart, two places long.
late = Source((("a", (1, 2)), ("x", (3,)), ("x", (4,)), ("z", (5,)), ("z", (5,)), ("y", ())), made(wide=1))
FORK_BOUNDS = {(-1, -1): 0, (0, 0): 0, (1, 1): 0, (1, 2): 1, (2, 1): -1, (2, 2): 0, (3, 3): 1}
W = (0, 1, 0, 0)


class Refused(unittest.TestCase):
    def test_what_is_no_weights(self):
        for thing in no_weights(4):
            for function in (spread_of, widest, spread_bounds, growth):
                self.assertIs(NoWeights, type(unchanged(self, function, fork, thing)))
            for other in ({(-1, -1): 0}, FORK_BOUNDS, None, []):
                self.assertIs(NoWeights, type(unchanged(self, shows_spread, fork, thing, 0, other)))
                self.assertIs(NoWeights, type(unchanged(self, shows_growth, fork, thing, other)))

    def test_one_weight_for_each_place(self):
        for many in range(1, 9):
            source = Source((("a", ()),) * many, made())
            for number in range(10):
                if number == many:
                    self.assertEqual(0, spread_of(source, (0,) * number))
                else:
                    self.assertRaises(NoWeights, spread_of, source, (0,) * number)


class Spread(unittest.TestCase):
    def test_spreads(self):
        self.assertEqual(1, spread_of(fork, W))
        self.assertEqual(7, spread_of(fork, (100, -3, 4, -50)))
        self.assertEqual(0, spread_of(fork, (5, 2, 2, 9)))
        self.assertEqual(1, spread_of(ring, (1, 0, 0)))
        self.assertEqual(0, spread_of(free, (3, 2, 2)))
        self.assertEqual(2 * 10 ** 6, spread_of(fork, (0, 10 ** 6, -10 ** 6, 0)))

    def test_all_weights_0(self):
        for source in (ring, fork, free, late):
            self.assertEqual(0, spread_of(source, (0,) * len(source.program)))
            self.assertIsNone(growth(source, (0,) * len(source.program)))

    def test_no_spread(self):
        for weights in ((0, 1, 0), (0, 0, 1), (0, 0, -1), (5, 10 ** 6, 10 ** 6 - 1)):
            self.assertIsNone(spread_of(free, weights))
            self.assertIsNone(widest(free, weights))
            self.assertIsNone(spread_bounds(free, weights))
            self.assertIs(True, shows_growth(free, weights, growth(free, weights)))

    def test_a_spread_that_is_reached_on_a_longer_list_only(self):
        self.assertEqual(4, spread_of(late, (0, 2, 0, 2, 0, 0)))
        first, second = widest(late, (0, 2, 0, 2, 0, 0))
        self.assertIn([(1, 1), (3, 3)], [first[k:k + 2] for k in range(2)])
        self.assertIn([(2, 2), (4, 4)], [second[k:k + 2] for k in range(2)])

    def test_a_spread_that_falls_again_behind_its_greatest(self):
        self.assertEqual(3, spread_of(late, (0, 3, 0, -3, 0, 0)))
        first, second = widest(late, (0, 3, 0, -3, 0, 0))
        self.assertEqual(3, weigh((0, 3, 0, -3, 0, 0), first) - weigh((0, 3, 0, -3, 0, 0), second))

    def test_a_ring_that_loses_as_much_as_it_gains(self):
        source = Source((("a", (1, 2)), ("x", (3,)), ("x", (4,)), ("z", (0,)), ("z", (0,))), made(wide=1))
        # The first one can be told z at 4, then a, then x at 1, the second one at 3 and at 2.
        self.assertEqual(2, spread_of(source, (0, 1, 0, 0, 1)))
        self.assertIsNone(growth(source, (0, 1, 0, 0, 1)))
        self.assertIsNone(spread_of(source, (0, 2, 0, 0, 1)))

    def test_a_first_sample_that_is_all_that_parts_them(self):
        source = Source((("a", (1, 2)), ("b", (3,)), ("b", (3,)), ("c", (0,))), made(wide=1, high=1))
        self.assertEqual(0, spread_of(source, (0, 0, 0, 0)))
        self.assertEqual(2, spread_of(source, (2, 2, 2, 4)))
        self.assertIsNone(spread_of(source, (0, 1, 0, 0)))

    def test_places_that_cannot_be_told(self):
        source = Source((("a", (1,)), ("a", ())), made(low=1, high=1))
        self.assertEqual(5, spread_of(source, (5, 0)))
        self.assertEqual({(-1, -1): 0, (1, 1): 5}, spread_bounds(source, (5, 0)))

    def test_the_widest(self):
        for source, weights in ((fork, W), (fork, (9, -4, 4, 2)), (ring, (1, 0, 0)), (ring, (-10 ** 6, 10 ** 6, 3)),
                                (late, (1, 2, 3, 4, 5, 6)), (late, (-1, 2, -3, 4, -5, 6))):
            first, second = widest(source, weights)
            told = [source.program[r][0] for p, r in first]
            self.assertIs(True, is_fitting(source, told, first))
            self.assertIs(True, is_fitting(source, told, second))
            self.assertEqual(spread_of(source, weights), weigh(weights, first) - weigh(weights, second))


class Bounds(unittest.TestCase):
    def test_the_least_ones(self):
        self.assertEqual(FORK_BOUNDS, spread_bounds(fork, W))
        self.assertEqual({(-1, -1): 0, (0, 0): 1, (1, 1): 1, (2, 2): 1}, spread_bounds(ring, (1, 0, 0)))

    def test_keys_are_ascending(self):
        for source in (fork, late, ring):
            keys = list(spread_bounds(source, (0,) * len(source.program)))
            self.assertEqual(sorted(keys), keys)
            self.assertEqual((-1, -1), keys[0])

    def test_shown(self):
        self.assertIs(True, shows_spread(fork, W, 1, FORK_BOUNDS))
        for source, weights in ((fork, (9, -4, 4, 2)), (ring, (1, 0, 0)), (late, (1, 2, 3, 4, 5, 6))):
            bounds = spread_bounds(source, weights)
            self.assertIs(True, unchanged(self, shows_spread, source, weights, spread_of(source, weights), bounds))

    def test_a_value_moved_by_one(self):
        for key in FORK_BOUNDS:
            self.assertIs(False, shows_spread(fork, W, 1, {**FORK_BOUNDS, key: FORK_BOUNDS[key] - 1}), key)
        # Upwards each but those with the greatest value may be moved, if what is behind lies high enough.
        right = [key for key in FORK_BOUNDS if shows_spread(fork, W, 1, {**FORK_BOUNDS, key: FORK_BOUNDS[key] + 1})]
        self.assertEqual([(1, 1), (2, 1), (2, 2)], right)
        self.assertIs(False, shows_spread(fork, W, 2, {**FORK_BOUNDS, (1, 2): 2}))
        self.assertIs(True, shows_spread(fork, W, 2, {**FORK_BOUNDS, (3, 3): 2}))
        self.assertIs(True, shows_spread(fork, W, 2, {key: FORK_BOUNDS[key] + 1 for key in FORK_BOUNDS}))
        self.assertIs(False, shows_spread(fork, W, 0, {key: FORK_BOUNDS[key] - 1 for key in FORK_BOUNDS}))

    def test_the_value_is_the_greatest_one(self):
        for value in (-1, 0, 2, 10 ** 12, -10 ** 12, True, None, "1"):
            self.assertIs(False, shows_spread(fork, W, value, FORK_BOUNDS))
        self.assertIs(True, shows_spread(fork, W, 9, {**FORK_BOUNDS, (3, 3): 9}))
        self.assertIs(False, shows_spread(fork, W, 1, {**FORK_BOUNDS, (3, 3): 9}))

    def test_any_order_of_keys(self):
        self.assertIs(True, shows_spread(fork, W, 1, {key: FORK_BOUNDS[key] for key in list(FORK_BOUNDS)[::-1]}))

    def test_a_key_less(self):
        for gone in FORK_BOUNDS:
            self.assertIs(False, shows_spread(fork, W, 1, {key: FORK_BOUNDS[key] for key in FORK_BOUNDS if key != gone}))
        self.assertIs(False, shows_spread(fork, W, 0, {}))
        self.assertIs(False, shows_spread(fork, W, 0, {(-1, -1): 0}))

    def test_a_key_more(self):
        # Behind (0, 1) there is no sign that both can come to, behind (0, 0) and 0 are (1, 2) and 1.
        self.assertIs(True, shows_spread(fork, W, 1, {**FORK_BOUNDS, (0, 1): -7}))
        self.assertIs(True, shows_spread(fork, W, 5, {**FORK_BOUNDS, (0, 1): 5}))
        # (1, 3) is followed by (3, 3), with the same difference.
        self.assertIs(True, shows_spread(fork, W, 1, {**FORK_BOUNDS, (1, 3): 1}))
        self.assertIs(False, shows_spread(fork, W, 2, {**FORK_BOUNDS, (1, 3): 2}))
        for key in ((-1, 0), (0, -1), (4, 0), (0, 4), (-2, -2), (-1, -1, -1), (0,), (), 0, -1, None, "00", (True, 2),
                    (0, False), ("0", "1"), ((0, 1),), (None, None), (10 ** 12, 0), (0, 1, 0)):
            if key not in FORK_BOUNDS:
                self.assertIs(False, shows_spread(fork, W, 1, {**FORK_BOUNDS, key: -9}), key)
        for key in ((False, False), (True, True), (0, False), (1, True)):
            bounds = {known: FORK_BOUNDS[known] for known in FORK_BOUNDS if known != key}
            self.assertIs(False, shows_spread(fork, W, 1, {**bounds, key: FORK_BOUNDS[key]}), key)

    def test_the_start_lies_at_0_or_above(self):
        raised = {key: FORK_BOUNDS[key] + 4 for key in FORK_BOUNDS}
        self.assertIs(True, shows_spread(fork, W, 5, raised))
        single = Source((("a", ()),), made())
        self.assertIs(True, shows_spread(single, (3,), 0, {(-1, -1): 0, (0, 0): 0}))
        self.assertIs(True, shows_spread(single, (3,), 2, {(-1, -1): 1, (0, 0): 2}))
        self.assertIs(False, shows_spread(single, (3,), 0, {(-1, -1): -1, (0, 0): 0}))
        self.assertIs(False, shows_spread(single, (3,), -1, {(-1, -1): -1, (0, 0): -1}))
        self.assertIs(False, shows_spread(single, (3,), 0, {(0, 0): 0}))

    def test_no_bounds_where_there_is_no_spread(self):
        keys = [(-1, -1), (0, 0), (1, 1), (1, 2), (2, 1), (2, 2)]
        for high in (0, 5, 10 ** 12):
            self.assertIs(False, shows_spread(free, (0, 1, 0), high, {key: high for key in keys}))
        self.assertIs(True, shows_spread(free, (0, 0, 0), 5, {key: 5 for key in keys}))

    def test_things_that_are_nearly_right(self):
        for thing in (list(FORK_BOUNDS), tuple(FORK_BOUNDS.items()), list(FORK_BOUNDS.items()), [FORK_BOUNDS], (FORK_BOUNDS,),
                      {**FORK_BOUNDS, (3, 3): True}, {**FORK_BOUNDS, (0, 0): False}, {**FORK_BOUNDS, (0, 0): None},
                      {**FORK_BOUNDS, (-1, -1): False}, {**FORK_BOUNDS, (0, 0): "0"}, {**FORK_BOUNDS, (0, 0): (0, 1)},
                      {**FORK_BOUNDS, (0, 0): [0]}, None, 0, True, ""):
            self.assertIs(False, unchanged(self, shows_spread, fork, W, 1, thing), thing)
        for thing in odd_things():
            self.assertIs(False, unchanged(self, shows_spread, fork, W, 1, thing))
            self.assertIs(False, unchanged(self, shows_spread, fork, W, 0, {(-1, -1): thing}))


class Growths(unittest.TestCase):
    weights = (0, 1, 0)

    def yes(self, *thing):
        self.assertIs(True, unchanged(self, shows_growth, free, self.weights, thing), thing)

    def no(self, *thing):
        self.assertIs(False, unchanged(self, shows_growth, free, self.weights, thing), thing)

    def test_right_ones(self):
        self.yes([(1, 1), (1, 1)], [(2, 2), (2, 2)], 1)
        self.yes([(1, 1)] * 3, [(2, 2)] * 3, 1)
        self.yes([(1, 1)] * 3, [(2, 2)] * 3, 2)
        self.yes([(2, 2), (1, 1), (2, 2)], [(2, 2), (2, 2), (2, 2)], 1)

    def test_none_where_there_is_a_spread(self):
        for source, weights in ((fork, W), (ring, (1, 0, 0)), (late, (1, 2, 3, 4, 5, 6)), (free, (5, 2, 2))):
            self.assertIsNone(growth(source, weights))
            self.assertIsNotNone(spread_of(source, weights))

    def test_the_turn(self):
        first, second = [(1, 1)] * 4, [(2, 2)] * 4
        for turn in (1, 2, 3):
            self.yes(first, second, turn)
        for turn in (-1, 0, 4, 5, 10 ** 12, -10 ** 12, True, False, None, "1", (1,), [1]):
            self.no(first, second, turn)
        self.no([(1, 1)], [(2, 2)], 1)
        self.no([(1, 1)], [(2, 2)], 0)
        self.no([], [], 0)
        self.no([], [], 1)
        self.no([], [], -1)

    def test_both_come_back_to_their_place(self):
        self.no([(1, 1), (1, 1)], [(1, 1), (2, 2)], 1)
        self.no([(2, 2), (1, 1)], [(2, 2), (2, 2)], 1)
        self.no([(1, 1), (2, 2), (1, 1)], [(2, 2)] * 3, 2)
        self.yes([(1, 1), (2, 2), (1, 1)], [(2, 2)] * 3, 1)

    def test_from_the_turn_on_the_first_weighs_more(self):
        self.no([(1, 1), (1, 1)], [(1, 1), (1, 1)], 1)
        self.no([(2, 2), (2, 2)], [(1, 1), (1, 1)], 1)
        self.no([(2, 2), (2, 2)], [(2, 2), (2, 2)], 1)
        # Ahead of the turn the first one weighs more, behind it the same.
        self.no([(1, 1), (2, 2), (1, 1)], [(2, 2), (1, 1), (2, 2)], 1)
        self.no([(1, 1), (1, 1), (2, 2), (2, 2)], [(2, 2), (2, 2), (2, 2), (2, 2)], 3)

    def test_two_fittings_of_one_told_list(self):
        self.no([(1, 1), (1, 1)], [(2, 2)] * 3, 1)
        self.no([(1, 1), (1, 1)], [(0, 0), (0, 0)], 1)
        self.no([(1, 1), (1, 1)], [(2, 2), (2, 1)], 1)
        self.no([(1, 1), (0, 0), (1, 1)], [(2, 2)] * 3, 1)
        self.no([(1, 2), (1, 2)], [(2, 2), (2, 2)], 1)
        source = Source((("a", (0,)), ("b", (1,))), made())
        self.assertIs(False, shows_growth(source, (1, 0), ([(0, 0), (0, 0)], [(1, 1), (1, 1)], 1)))

    def test_things_that_are_nearly_right(self):
        first, second = [(1, 1), (1, 1)], [(2, 2), (2, 2)]
        for thing in ([first, second, 1], (first, second), (first, second, 1, 1), (tuple(first), second, 1),
                      (first, tuple(second), 1), ([[1, 1], [1, 1]], second, 1), ([(1, True), (1, 1)], second, 1),
                      ([(True, 1), (1, 1)], second, 1), (first, [(2, 2), [2, 2]], 1), (first, None, 1), (None, second, 1),
                      (1, first, second), ([(1, 1, 1)] * 2, second, 1), ([(1,)] * 2, second, 1), {}, None, 0, ""):
            self.assertIs(False, unchanged(self, shows_growth, free, self.weights, thing), thing)
        for thing in odd_things():
            self.assertIs(False, unchanged(self, shows_growth, free, self.weights, thing))
            self.no(thing, second, 1)
            self.no(first, thing, 1)
            self.no(first, second, thing)

    def test_a_long_way_to_the_ring(self):
        # Both have to go to the end of the line, where the sign is shared.
        line = tuple([(f"a{place}", (place + 1,)) for place in range(5)])
        source = Source((*line, ("s", (6, 7)), ("x", (5,)), ("x", (5,))), made(wide=1))
        weights = (0, 0, 0, 0, 0, 0, 4, 3)
        first, second, turn = growth(source, weights)
        self.assertIs(True, shows_growth(source, weights, (first, second, turn)))
        self.assertIsNone(spread_of(source, weights))
        self.assertEqual(0, spread_of(source, (1, 2, 3, 4, 5, 6, 7, 7)))

    def test_a_ring_of_many_signs_that_gains_one_only(self):
        # Seven places one behind the other, but for two of them that share place and sign.
        program = (("a", (1,)), ("b", (2,)), ("c", (3,)), ("d", (4,)), ("e", (5, 6)), ("f", (7,)), ("f", (7,)), ("g", (0,)))
        source = Source(program, made(wide=1))
        weights = (0, 10 ** 6, -10 ** 6, 0, 0, 5, 4, 0)
        self.assertIs(True, shows_growth(source, weights, growth(source, weights)))
        self.assertEqual(0, spread_of(source, (*weights[:5], 5, 5, 0)))
        self.assertEqual(1, spread_of(Source((*program[:7], ("g", ())), made(wide=1)), weights))


if __name__ == "__main__":
    unittest.main()
