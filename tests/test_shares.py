import unittest

from skidblame.errors import NoWeights
from skidblame.programs import made
from skidblame.shares import excess_of, gains_of, share_bounds, share_of, shows_bounds, shows_round, worst_round
from skidblame.sources import Source
from tests.things import no_gains, no_weights, odd_things, unchanged

MOST = 10 ** 6
two = Source((("a", (1,)), ("b", (0,))), made(wide=1))
G = ((1, 1), (0, 0))
line = Source((("a", (1,)), ("b", ())), made())
halt = Source((("a", ()),), made())
# A ring of two places and one of three, joined at place 0.
knot = Source((("a", (1, 3)), ("b", (2,)), ("c", (0,)), ("d", (0,))), made(wide=1))
ring = Source((("a", (1,)), ("b", (2,)), ("c", (0,))), made(wide=1))
lagging = Source((("a", (1,)), ("b", (2,)), ("c", (0,))), made(wide=1, high=1))
FUNCTIONS = (share_of, worst_round, share_bounds, excess_of)


def flat(source, gain):
    """Gains that are all the same."""
    signs = len({sign for sign, _ in source.program})
    return ((gain,) * signs,) * len(source.program)


def by_place(source, weights):
    signs = len({sign for sign, _ in source.program})
    return tuple([(weight,) * signs for weight in weights])


class Refused(unittest.TestCase):
    def test_what_is_no_gains(self):
        for source in (two, knot):
            for thing in no_gains(len(source.program), len(source.program)):
                for function in FUNCTIONS:
                    self.assertIs(NoWeights, type(unchanged(self, function, source, thing)))
                for other in (([(0, 0), (1, 1), (0, 0)], 1), {-1: 0, 0: 1, 1: 0}, None, []):
                    self.assertIs(NoWeights, type(unchanged(self, shows_round, source, thing, (1, 2), other)))
                    self.assertIs(NoWeights, type(unchanged(self, shows_bounds, source, thing, (1, 2), other)))

    def test_one_tuple_for_each_place_and_in_it_one_gain_for_each_sign(self):
        source = Source((("a", (1,)), ("b", (2,)), ("a", (0,))), made())
        for many in range(6):
            for signs in range(5):
                gains = ((0,) * signs,) * many
                if (many, signs) == (3, 2):
                    self.assertEqual((0, 1), share_of(source, gains))
                else:
                    self.assertRaises(NoWeights, share_of, source, gains)

    def test_gains_at_their_limits(self):
        for gain in (MOST, -MOST):
            self.assertEqual((gain, 1), share_of(two, flat(two, gain)))
        for gain in (MOST + 1, -MOST - 1):
            self.assertRaises(NoWeights, share_of, two, flat(two, gain))
            for place in (0, 1):
                for sign in (0, 1):
                    gains = [[0, 0], [0, 0]]
                    gains[place][sign] = gain
                    self.assertRaises(NoWeights, share_of, two, tuple([tuple(row) for row in gains]))


class Share(unittest.TestCase):
    def test_shares(self):
        self.assertEqual((1, 2), share_of(two, G))
        self.assertEqual((1, 3), share_of(ring, by_place(ring, (1, 0, 0))))
        # Told at 1 and at 2 in turn, samples are taken at 2 and at 0 only.
        self.assertEqual((1, 2), share_of(lagging, by_place(lagging, (1, 0, 0))))
        self.assertEqual((5, 2), share_of(knot, by_place(knot, (1, 2, 3, 4))))
        self.assertEqual((7, 3), share_of(knot, by_place(knot, (1, 2, 4, 3))))

    def test_no_round(self):
        for source in (line, halt):
            for gain in (0, 1, MOST, -MOST):
                gains = flat(source, gain)
                self.assertIsNone(share_of(source, gains))
                self.assertIsNone(worst_round(source, gains))

    def test_gains_that_are_all_equal(self):
        for source in (two, knot, lagging):
            for gain in (0, 1, -1, 3, MOST, -MOST):
                self.assertEqual((gain, 1), share_of(source, flat(source, gain)))
                self.assertEqual(0, excess_of(source, flat(source, gain)))

    def test_lowest_terms_and_below_0(self):
        self.assertEqual((3, 1), share_of(two, ((2, 2), (4, 4))))
        self.assertEqual((-1, 2), share_of(two, ((-1, -1), (0, 0))))
        self.assertEqual((-3, 1), share_of(two, ((-2, -2), (-4, -4))))
        self.assertEqual((0, 1), share_of(two, ((-2, -2), (2, 2))))
        self.assertEqual((-1, 3), share_of(ring, by_place(ring, (-1, 0, 0))))
        self.assertEqual((2 * MOST - 1, 2), share_of(two, ((MOST, 0), (0, MOST - 1))))
        self.assertEqual((1 - 2 * MOST, 2), share_of(two, ((-MOST, 0), (0, 1 - MOST))))

    def test_the_gain_hangs_on_the_place_taken_and_on_the_sign_told(self):
        source = Source((("b", (1,)), ("a", (0,))), made(wide=1, low=1, high=1))
        # All samples are taken at 0 and told at 1, whose sign a is the first one, or the other way round.
        self.assertEqual((1, 1), share_of(source, ((1, 0), (0, 0))))
        self.assertEqual((0, 1), share_of(source, ((0, 1), (0, 0))))
        self.assertEqual((0, 1), share_of(source, ((0, 0), (1, 0))))
        self.assertEqual((1, 1), share_of(source, ((0, 0), (0, 1))))

    def test_a_greater_gain_ahead_of_the_ring_does_not_count(self):
        source = Source((("a", (1,)), ("b", (1,))), made(wide=1))
        self.assertEqual((-5, 1), share_of(source, ((MOST, MOST), (-5, -5))))
        self.assertEqual(MOST + 5, excess_of(source, ((MOST, MOST), (-5, -5))))

    def test_places_that_no_run_comes_to_do_not_count(self):
        source = Source((("a", (0,)), ("b", (1,))), made(wide=1))
        self.assertEqual((2, 1), share_of(source, ((2, 9), (9, 9))))
        self.assertEqual({-1: 0, 0: 0}, share_bounds(source, ((2, 9), (9, 9))))

    def test_the_greatest_of_several_rings_whatever_their_order(self):
        for best in range(5):
            nexts = (0, 1, 2, 3, 4)
            source = Source(tuple([("a", nexts) for _ in nexts]), made(wide=1))
            gains = tuple([(7 if place == best else place,) for place in nexts])
            self.assertEqual((7, 1), share_of(source, gains))
            self.assertIs(True, shows_round(source, gains, (7, 1), worst_round(source, gains)))


class Bounds(unittest.TestCase):
    def test_the_least_ones(self):
        self.assertEqual({-1: 0, 0: 1, 1: 0}, share_bounds(two, G))
        self.assertEqual([-1, 0, 1], list(share_bounds(two, G)))
        self.assertEqual({-1: 0, 0: 0, 1: 1, 2: 1}, share_bounds(lagging, by_place(lagging, (0, 1, 0))))

    def test_without_a_round_they_are_those_of_0(self):
        gains = ((3, 1), (-5, 4))
        self.assertEqual({-1: 0, 0: 3, 1: 7}, share_bounds(line, gains))
        self.assertEqual(7, excess_of(line, gains))
        self.assertIs(True, shows_bounds(line, gains, (0, 1), share_bounds(line, gains)))
        self.assertEqual({-1: 0, 0: -2}, share_bounds(halt, ((-2,),)))
        self.assertEqual(0, excess_of(halt, ((-2,),)))

    def test_the_excess_counts_the_denominator(self):
        # Of an odd number m of samples (m + 1) / 2 can be taken at 0, and 2 * (m + 1) / 2 = m + 1.
        self.assertEqual(1, excess_of(two, G))
        self.assertEqual(3, excess_of(two, ((3, 3), (0, 0))))
        self.assertEqual(1, excess_of(lagging, by_place(lagging, (1, 0, 0))))
        self.assertEqual(2, excess_of(ring, by_place(ring, (1, 0, 0))))

    def test_shown_at_fractions_next_to_the_share(self):
        bounds = {-1: 0, 0: 1, 1: 0}
        self.assertIs(True, shows_bounds(two, G, (1, 2), bounds))
        self.assertIs(True, shows_bounds(two, G, (2, 3), bounds))
        self.assertIs(True, shows_bounds(two, G, (1, 1), bounds))
        self.assertIs(True, shows_bounds(two, G, (500001, 10 ** 6), {-1: 0, 0: 499999, 1: 0}))
        for fraction in ((1, 3), (0, 1), (-1, 2), (499999, 10 ** 6), (0, 1)):
            for high in (0, 1, 10 ** 6, 10 ** 12):
                for less in (0, 1, 2, 499999, 500001):
                    self.assertIs(False, shows_bounds(two, G, fraction, {-1: 0, 0: high, 1: high - less}))

    def test_a_value_moved_by_one(self):
        bounds = {-1: 0, 0: 1, 1: 0}
        self.assertIs(True, shows_bounds(two, G, (1, 2), {key: bounds[key] + 1 for key in bounds}))
        self.assertIs(False, shows_bounds(two, G, (1, 2), {key: bounds[key] - 1 for key in bounds}))
        for key in bounds:
            self.assertIs(False, shows_bounds(two, G, (1, 2), {**bounds, key: bounds[key] - 1}), key)
            self.assertIs(False, shows_bounds(two, G, (1, 2), {**bounds, key: bounds[key] + 1}), key)
            self.assertIs(False, shows_bounds(two, G, (1, 2), {other: bounds[other] for other in bounds if other != key}))
        # At a fraction above the share there is room.
        self.assertIs(True, shows_bounds(two, G, (2, 3), {**bounds, 0: 2}))
        self.assertIs(True, shows_bounds(two, G, (2, 3), {0: 1, 1: 0, -1: 0}))

    def test_keys_that_are_not_reached(self):
        # A key more is right where the bounds hold for its moves, too.
        self.assertIs(True, shows_bounds(line, flat(line, 0), (0, 1), {-1: 0, 0: 0, 1: 0}))
        source = Source((("a", ()), ("b", (0,))), made())
        self.assertIs(True, shows_bounds(source, flat(source, 0), (0, 1), {-1: 0, 0: 0}))
        self.assertIs(True, shows_bounds(source, flat(source, 0), (0, 1), {-1: 0, 0: 0, 1: -5}))
        self.assertIs(False, shows_bounds(source, flat(source, 0), (0, 1), {-1: 0, 0: 0, 1: 1}))
        self.assertIs(False, shows_bounds(source, flat(source, 0), (0, 1), {-1: 0, 0: 0, 2: 0}))

    def test_what_is_no_bounds(self):
        right = {-1: 0, 0: 1, 1: 0}
        near = [
            {-1: 0}, {0: 1, 1: 0}, {-1: 0, 0: True, 1: 0}, {-1: False, 0: 1, 1: 0}, {-1: 0, 0: 1, 1: None}, {-1: 0, 0: 1, True: 0},
            {-1: 0, False: 1, 1: 0}, {**right, 2: 0}, {**right, -2: 0}, {**right, None: 0}, {**right, "0": 0}, {**right, (0,): 0},
            {**right, (-1, -1): 0}, {-1: 0, 0: "1", 1: 0}, {-1: 0, 0: (1,), 1: 0}, {-1: [], 0: 1, 1: 0}, {-1: None, 0: 1, 1: 0},
            list(right.items()), [right], (right,), ((-1, 0), (0, 1), (1, 0)), {**right, 10 ** 12: 0}]
        for thing in near + odd_things():
            self.assertIs(False, unchanged(self, shows_bounds, two, G, (1, 2), thing), thing)

    def test_what_is_no_fraction(self):
        for share in (None, 0, 1, (1,), (1, 2, 1), [1, 2], (2, 4), (1, 0), (1, -2), (-1, -2), (0, 2), (True, 1), (1, True), ("1", 2), "1/2"):
            self.assertIs(False, unchanged(self, shows_bounds, two, G, share, {-1: 0, 0: 10, 1: 10}), share)
            self.assertIs(False, unchanged(self, shows_round, two, G, share, ([(0, 0), (1, 1), (0, 0)], 1)), share)
        ones = flat(two, 1)
        self.assertIs(False, shows_round(two, ones, (True, True), ([(0, 0), (1, 1), (0, 0)], 1)))
        self.assertIs(False, shows_round(two, ones, (2, 2), ([(0, 0), (1, 1), (0, 0)], 1)))
        self.assertIs(True, shows_round(two, ones, (1, 1), ([(0, 0), (1, 1), (0, 0)], 1)))


class Rounds(unittest.TestCase):
    right = [(0, 0), (1, 1), (0, 0), (1, 1)]

    def test_the_worst(self):
        for source, gains in ((two, G), (knot, by_place(knot, (1, 2, 3, 4))), (knot, by_place(knot, (-1, 2, -3, 4))),
                              (lagging, by_place(lagging, (1, 0, 0))), (lagging, ((1, 2, 3), (4, 5, 6), (7, 8, -9)))):
            self.assertIs(True, unchanged(self, shows_round, source, gains, share_of(source, gains), worst_round(source, gains)))

    def test_any_round_at_any_fraction(self):
        for turn in range(5):
            self.assertIs(turn == 2, shows_round(two, G, (1, 2), (self.right, turn)))
        source = Source((("a", (0, 1)), ("b", (0,))), made(wide=1))
        pairs = [(0, 0), (0, 0), (0, 0), (1, 1), (0, 0)]
        means = {1: (3, 4), 2: (2, 3), 3: (1, 2), 4: (0, 1)}
        for turn in range(-1, 7):
            for share in ((3, 4), (2, 3), (1, 2), (0, 1), (1, 1), (1, 4)):
                self.assertIs(turn < 4 and means.get(turn) == share, shows_round(source, G, share, (pairs, turn)), (turn, share))

    def test_turns(self):
        pairs = [(0, 0), (1, 1)] * 3
        for turn in range(-7, 8):
            self.assertIs(turn in (2, 4), shows_round(two, G, (1, 2), (pairs, turn)), turn)
        # The r of the pair at the index 0 is never the last one's here.
        self.assertIs(False, shows_round(two, G, (0, 1), (pairs, 1)))
        self.assertIs(True, shows_round(two, flat(two, 0), (0, 1), (pairs, 2)))

    def test_what_is_no_round(self):
        pairs = [(0, 0), (1, 1), (0, 0)]
        near = [
            (pairs, 0), (pairs, 2), (pairs, 3), (pairs, True), (pairs, None), (pairs, "1"), (pairs, (1,)), (tuple(pairs), 1), [pairs, 1],
            (pairs,), (pairs, 1, 1), (pairs, pairs, 1), (1, pairs), ([], 0), ([], 1), ([(0, 0)], 0), ([(0, 0)], 1), pairs, (pairs, -1),
            ([(0, 0), (0, 0), (0, 0)], 1), ([(0, 0), (1, 1), (1, 0)], 1), ([[0, 0], [1, 1], [0, 0]], 1), ([(False, 0), (1, 1), (0, 0)], 1),
            ([(0, 0), (1, True), (0, 0)], 1), ([(0, 0), None, (0, 0)], 1), ([(0, 0, 0), (1, 1), (0, 0)], 1), ({0: 0}, 1), (None, 1),
            ([(0, 0), (1, 1), (0, 0), (1, 1)], 1)]
        self.assertIs(True, shows_round(two, G, (1, 2), (pairs, 1)))
        for thing in near + odd_things():
            self.assertIs(False, unchanged(self, shows_round, two, G, (1, 2), thing), thing)


class GainsOf(unittest.TestCase):
    def test_gains(self):
        self.assertEqual(G, gains_of(two, (1, 0), (0, 0)))
        self.assertEqual(((1, -2), (0, -3)), gains_of(two, (1, 0), (0, 3)))
        source = Source((("b", (1,)), ("a", (2,)), ("b", (0,))), made())
        self.assertEqual(((5, 7), (-5, -3), (0, 2)), gains_of(source, (10, 0, 5), (5, 3)))

    def test_what_is_no_weights(self):
        for thing in no_weights(2):
            self.assertIs(NoWeights, type(unchanged(self, gains_of, two, thing, (0, 0))))
            self.assertIs(NoWeights, type(unchanged(self, gains_of, two, thing, None)))

    def test_what_is_no_prices(self):
        near = [[0, 0], (0,), (0, 0, 0), (), (0, True), (False, 0), (0, None), ("0", 0), (0, (0,)), ([0], 0), {0: 0, 1: 0}, None, 0, "00"]
        for thing in near + [thing for thing in odd_things() if thing != (1, 2)]:
            self.assertIs(NoWeights, type(unchanged(self, gains_of, two, (0, 0), thing)), thing)
        three = Source((("b", (1,)), ("a", (2,)), ("b", (0,))), made())
        for thing in ((0,), (0, 0, 0)):
            self.assertRaises(NoWeights, gains_of, three, (0, 0, 0), thing)

    def test_gains_beyond_their_limits(self):
        for weights, prices in (((0, MOST), (0, -1)), ((0, -MOST), (1, 0)), ((1, 0), (-MOST, 0)), ((-1, 0), (0, MOST)),
                                ((0, 0), (10 ** 12, 0)), ((0, 0), (0, -10 ** 12)), ((MOST, -MOST), (1, 1))):
            self.assertRaises(NoWeights, gains_of, two, weights, prices)
        self.assertEqual(((MOST, MOST), (-MOST, -MOST)), gains_of(two, (MOST, -MOST), (0, 0)))
        self.assertEqual(((0, 0), (0, 0)), gains_of(two, (MOST, MOST), (MOST, MOST)))
        self.assertEqual(((MOST, -MOST), (MOST, -MOST)), gains_of(two, (0, 0), (-MOST, MOST)))
        # A price may be beyond 10^6 itself.
        self.assertEqual(((-MOST,), ), gains_of(halt, (MOST,), (2 * MOST,)))


if __name__ == "__main__":
    unittest.main()
