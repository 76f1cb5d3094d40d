import unittest

from skidblame.errors import Mismatch, NoChange, NoWeights, TooMany
from skidblame.fittings import is_fitting
from skidblame.mends import (
    breach, cheapest, choices, greatest_high, marked, settled, shows_breach, shows_cheapest)
from skidblame.programs import made
from skidblame.sources import Source
from skidblame.spread import shows_growth, shows_spread, spread_bounds, spread_of
from tests.plainfits import weigh
from tests.things import no_choices, no_offers, no_weights, odd_things, unchanged

ring = Source((("a", (1,)), ("b", (2,)), ("c", (0,))), made(wide=1, high=1))
free = Source((("a", (1, 2)), ("b", (0,)), ("b", (0,))), made(gap=2, wide=2))
fork = Source((("s", (1, 2)), ("x", (3,)), ("x", (3,)), ("y", (3,))), made(wide=1))
loose = Source((("a", (1,)), ("b", (2,)), ("c", (0,))), made(high=1))
W = (1, 0, 0)
OFFERS = [(0, 3), (1, 1), (2, 2)]
BOUND = 10 ** 9
wide8 = Source(tuple([("a", tuple(range(8)))] * 8), made(wide=1, marks=(7,)))


class Refused(unittest.TestCase):
    offered = Source((("a", (1,)), ("b", (2,)), ("c", (0,))), made(wide=1, high=1, marks=(1,)))

    def test_what_is_no_weights(self):
        for thing in no_weights(3):
            for function, things in (
                    (settled, (0,)), (breach, (0,)), (greatest_high, (0,)), (shows_breach, (0, None)),
                    (shows_breach, (0, ([(0, 0)], [(2, 0)]))), (cheapest, (0, OFFERS)), (cheapest, (0, None)), (cheapest, (0, [(0, 1)] * 7)),
                    (shows_cheapest, (0, OFFERS, None)), (shows_cheapest, (0, None, None))):
                self.assertIs(NoWeights, type(unchanged(self, function, ring, thing, *things)), thing)

    def test_what_is_no_list_of_offers(self):
        for thing in no_offers((0, 2), 1, 3):
            self.assertIs(NoChange, type(unchanged(self, marked, self.offered, thing, ())), thing)
            self.assertIs(NoChange, type(unchanged(self, marked, self.offered, thing, None)), thing)
            self.assertIs(NoChange, type(unchanged(self, cheapest, self.offered, W, 0, thing)), thing)
            self.assertIs(NoChange, type(unchanged(self, shows_cheapest, self.offered, W, 0, thing, None)), thing)

    def test_marked_places_are_not_offered(self):
        for place in range(3):
            self.assertEqual(place != 1, self.can(marked, self.offered, [(place, 0)], ()))
            self.assertTrue(self.can(marked, ring, [(place, 0)], ()))

    def can(self, function, *things):
        try:
            function(*things)
        except NoChange:
            return False
        return True

    def test_prices_from_0_on(self):
        for price in (0, 1, 10 ** 12):
            self.assertEqual((1, 1, 0, 1, (2,)), marked(ring, [(2, price)], (0,)).watcher)
        for price in (-1, -10 ** 12):
            self.assertRaises(NoChange, marked, ring, [(2, price)], (0,))

    def test_more_than_six_offers(self):
        six = [(place, place) for place in range(6)]
        self.assertEqual((0, 1, 2, 3, 4, 5, 7), marked(wide8, six, (0, 1, 2, 3, 4, 5)).watcher[4])
        seven = [*six, (6, 0)]
        for function, things in ((marked, (seven, ())), (marked, (seven, None)), (marked, (seven, (6,))), (cheapest, ((0,) * 8, 0, seven)),
                                 (shows_cheapest, ((0,) * 8, 0, seven, None))):
            error = unchanged(self, function, wide8, *things)
            self.assertIs(TooMany, type(error))
            self.assertEqual(6, error.limit)

    def test_too_many_comes_behind_what_is_no_offer(self):
        for last in ((6, -1), (7, 0), (0, 0), None):
            offers = [(place, 0) for place in range(6)] + [last]
            self.assertRaises(NoChange, marked, wide8, offers, None)
            self.assertRaises(NoChange, cheapest, wide8, (0,) * 8, 0, offers)
        self.assertRaises(NoChange, cheapest, wide8, (0,) * 8, 0, [(0, 0)] * 7)

    def test_what_is_no_choice(self):
        for thing in no_choices(3):
            self.assertIs(Mismatch, type(unchanged(self, marked, ring, OFFERS, thing)), thing)
        for thing in ((0,), (3,), [], None):
            self.assertIs(Mismatch, type(unchanged(self, marked, ring, [], thing)), thing)


class Choices(unittest.TestCase):
    def test_by_price_and_then_ascending(self):
        self.assertEqual([(), (1,), (2,), (0,), (1, 2), (0, 1), (0, 2), (0, 1, 2)], list(choices(OFFERS)))
        self.assertEqual([()], list(choices([])))
        self.assertEqual([(), (0,)], list(choices([(5, 0)])))
        self.assertEqual([(), (0,), (0, 1), (1,)], list(choices([(5, 0), (2, 0)])))
        self.assertEqual([(), (0,), (1,), (2,), (0, 1), (0, 2), (1, 2), (0, 1, 2)], list(choices([(5, 1), (2, 1), (0, 1)])))
        self.assertEqual([(), (1,), (0,), (0, 1)], list(choices([(0, 1), (1, 0)])))

    def test_six(self):
        found = list(choices([(place, 2 ** place) for place in range(6)]))
        self.assertEqual(64, len(set(found)))
        self.assertEqual(list(range(64)), [sum([2 ** index for index in choice]) for choice in found])

    def test_one_by_one(self):
        found = choices(OFFERS)
        self.assertEqual([(), (1,)], [next(found), next(found)])

    def test_marked(self):
        for choice, marks in (((), ()), ((0,), (0,)), ((0, 2), (0, 2)), ((0, 1, 2), (0, 1, 2))):
            found = unchanged(self, marked, ring, OFFERS, choice)
            self.assertEqual(Source(ring.program, (1, 1, 0, 1, marks)), found)
            self.assertEqual((1, 1, 0, 1, ()), ring.watcher)
        self.assertEqual((2, 5, 7), marked(wide8, [(5, 0), (2, 0)], (0, 1)).watcher[4])
        self.assertEqual((5, 7), marked(wide8, [(5, 0), (2, 0)], (0,)).watcher[4])


class Settled(unittest.TestCase):
    def test_bounds(self):
        self.assertEqual([False, True, True], [settled(ring, W, bound) for bound in (0, 1, BOUND)])
        self.assertEqual([True, True], [settled(ring, (5, 5, 5), bound) for bound in (0, BOUND)])
        for bound in (0, 1, BOUND):
            self.assertIs(False, settled(free, (0, 1, 0), bound))
            self.assertIs(True, settled(free, (1, 0, 0), bound))
        for weights in ((0, 9, -4, 0), (7, 10 ** 6, -10 ** 6, 0)):
            spread = spread_of(fork, weights)
            self.assertEqual([False, True], [settled(fork, weights, bound) for bound in (spread - 1, spread)])

    def test_breaches(self):
        for source, weights, bound in ((ring, W, 0), (fork, (0, 9, -4, 0), 12), (fork, (0, 9, -4, 0), 0), (free, (0, 1, 0), BOUND),
                                       (free, (0, 0, 1), 0), (fork, (0, -10 ** 6, 10 ** 6, 0), 2 * 10 ** 6 - 1)):
            self.assertIs(True, unchanged(self, shows_breach, source, weights, bound, breach(source, weights, bound)))
        for source, weights, bound in ((ring, W, 1), (ring, W, BOUND), (fork, (0, 9, -4, 0), 13), (free, (1, 0, 0), 0)):
            self.assertIsNone(breach(source, weights, bound))

    def test_a_breach_is_two_fittings_or_a_growth(self):
        first, second = breach(fork, (0, 9, -4, 0), 12)
        told = [fork.program[r][0] for _, r in first]
        self.assertTrue(is_fitting(fork, told, first) and is_fitting(fork, told, second))
        self.assertEqual(13, weigh((0, 9, -4, 0), first) - weigh((0, 9, -4, 0), second))
        self.assertIs(True, shows_growth(free, (0, 1, 0), breach(free, (0, 1, 0), 7)))

    def test_which_are_shown(self):
        first, second = [(0, 0)], [(2, 0)]
        self.assertEqual([True, False, False], [shows_breach(ring, W, bound, (first, second)) for bound in (0, 1, BOUND)])
        self.assertIs(False, shows_breach(ring, W, 0, (second, first)))
        self.assertIs(True, shows_breach(ring, (-1, 0, 0), 0, (second, first)))
        self.assertIs(False, shows_breach(ring, W, 0, (first, first)))
        self.assertIs(False, shows_breach(ring, W, 0, ([], [])))
        grown = ([(1, 1), (1, 1)], [(2, 2), (2, 2)], 1)
        for bound in (0, 1, 2, BOUND):
            self.assertIs(True, shows_breach(free, (0, 1, 0), bound, grown))
            self.assertIs(bound < 2, shows_breach(free, (0, 1, 0), bound, grown[:2]))
            self.assertIs(False, shows_breach(free, (0, 0, 1), bound, grown))

    def test_two_fittings_that_are_far_apart_where_there_is_a_growth(self):
        pairs = ([(1, 1)] * 6, [(2, 2)] * 6)
        self.assertEqual([True, False], [shows_breach(free, (0, 1, 0), bound, pairs) for bound in (5, 6)])

    def test_what_is_no_breach(self):
        first, second = [(0, 0)], [(2, 0)]
        near = [
            [first, second], (first,), (first, second, 1), (first, second, 0), (first, second, None), (tuple(first), second), (first, tuple(second)),
            (first, None), (None, second), ([(0, 0), (1, 1)], second), (first, [(2, 0), (1, 1)]), (first, [(2, 2)]), (first, [(2, 2), (2, 2)]),
            ([(0, 2)], second), (first, [(1, 0)]), ([(False, 0)], second), (first, [(2, False)]), ([[0, 0]], second), (first, [[2, 0]]),
            ([(0, 0, 0)], second), (first, {}), ({}, second), (first, ()), first, (first, second, 1, 1), ([None], [None]), (0, 0), (1, -1)]
        for thing in near + odd_things():
            self.assertIs(False, unchanged(self, shows_breach, ring, W, 0, thing), thing)


class Cheapest(unittest.TestCase):
    def test_the_documents(self):
        choice, price, bounds, reasons = cheapest(ring, W, 0, OFFERS)
        self.assertEqual(((0, 2), 5), (choice, price))
        self.assertEqual([(), (1,), (2,), (0,), (1, 2), (0, 1)], [reason[0] for reason in reasons])
        self.assertIs(True, shows_spread(marked(ring, OFFERS, choice), W, max(bounds.values()), bounds))
        for other, found in reasons:
            self.assertIs(True, shows_breach(marked(ring, OFFERS, other), W, 0, found))
        self.assertIs(True, unchanged(self, shows_cheapest, ring, W, 0, OFFERS, (choice, price, bounds, reasons)))

    def test_settled_without_a_mark(self):
        for offers in ([], OFFERS):
            found = cheapest(ring, W, 1, offers)
            self.assertEqual(((), 0, []), (*found[:2], found[3]))
            self.assertLessEqual(max(found[2].values()), 1)
            self.assertIs(True, shows_cheapest(ring, W, 1, offers, found))

    def test_no_choice_settles(self):
        for offers in ([], [(0, 1)], [(0, 0), (1, 0), (2, 0)]):
            found = cheapest(free, (0, 1, 0), BOUND, offers)
            self.assertEqual((None, None, None), found[:3])
            self.assertEqual(list(choices(offers)), [reason[0] for reason in found[3]])
            self.assertIs(True, shows_cheapest(free, (0, 1, 0), BOUND, offers, found))

    def test_equal_prices(self):
        # 0 or 2 alone does not do, and of all other choices (0, 1) is the least as a tuple.
        for price in (0, 5):
            found = cheapest(ring, (0, 1, 0), 0, [(0, price), (1, price), (2, price)])
            self.assertEqual(((0, 1), 2 * price), found[:2])
        found = cheapest(ring, (0, 1, 0), 0, [(2, 0), (1, 0), (0, 0)])
        self.assertEqual(((0, 1, 2), 0), found[:2])
        self.assertEqual([(), (0,), (0, 1)], [reason[0] for reason in found[3]])

    def test_a_bound_that_is_just_the_spread(self):
        weights = (3, 0, 0)
        spread = spread_of(ring, weights)
        for bound, choice in ((BOUND, ()), (spread, ()), (spread - 1, (0, 2))):
            found = cheapest(ring, weights, bound, OFFERS)
            self.assertEqual(choice, found[0])
            self.assertIs(True, shows_cheapest(ring, weights, bound, OFFERS, found))

    def test_a_mark_that_adds_moves(self):
        program = (("a", (1,)), ("b", (2,)), ("c", (3,)), ("d", (0,)))
        source = Source(program, made(wide=1, low=2, high=2))
        again = marked(source, [(1, 0)], (0,))
        # A sample that is taken at 0 is told at 2, but at the mark, ahead of two steps, where there is one.
        self.assertEqual([True, False], [(-1, 0, 2) in mended for mended in (source, again)])
        self.assertEqual([False, True], [(-1, 0, 1) in mended for mended in (source, again)])
        self.assertEqual([True, False], [settled(mended, (1, 0, 0, 0), 0) for mended in (source, again)])
        self.assertEqual(((), 0), cheapest(source, (1, 0, 0, 0), 0, [(1, 0)])[:2])
        self.assertEqual(30, greatest_high(Source(program, made(wide=1, low=2, high=2, marks=(0, 1, 2, 3))), (1, 0, 0, 0), 0))

    def test_the_order_of_offers_and_the_marks_that_are_there(self):
        source = Source(ring.program, made(wide=1, high=1, marks=(0,)))
        found = cheapest(source, W, 0, [(1, 0), (2, 7)])
        # (0, 1) is as cheap as (1,), and less as a tuple.
        self.assertEqual(((0, 1), 7), found[:2])
        self.assertEqual([(), (0,)], [reason[0] for reason in found[3]])
        self.assertIs(True, shows_cheapest(source, W, 0, [(1, 0), (2, 7)], found))
        self.assertEqual(((1,), 7), cheapest(source, W, 0, [(1, 1), (2, 7)])[:2])

    def test_any_right_bounds_and_breaches(self):
        choice, price, bounds, reasons = cheapest(ring, W, 0, OFFERS)
        self.assertIs(True, shows_cheapest(ring, W, 0, OFFERS, (choice, price, dict(list(bounds.items())[::-1]), reasons)))
        first = ((), ([(0, 0)], [(2, 0)]))
        self.assertIs(True, shows_cheapest(ring, W, 0, OFFERS, (choice, price, bounds, [first, *reasons[1:]])))
        wrong = ((), ([(2, 0)], [(0, 0)]))
        self.assertIs(False, shows_cheapest(ring, W, 0, OFFERS, (choice, price, bounds, [wrong, *reasons[1:]])))
        # Bounds may lie above the spread, up to the bound.
        found = cheapest(ring, W, 3, OFFERS)
        for more in (0, 1, 2, 3):
            raised = {key: found[2][key] + more for key in found[2]}
            self.assertIs(max(raised.values()) <= 3, shows_cheapest(ring, W, 3, OFFERS, ((), 0, raised, [])))

    def test_a_choice_that_settles_and_is_not_the_cheapest(self):
        found = cheapest(ring, W, 0, OFFERS)
        every = marked(ring, OFFERS, (0, 1, 2))
        bounds = spread_bounds(every, W)
        self.assertIs(True, settled(every, W, 0))
        for reasons in (found[3], [*found[3], ((0, 2), found[3][0][1])], [*found[3], found[3][0]], []):
            self.assertIs(False, shows_cheapest(ring, W, 0, OFFERS, ((0, 1, 2), 6, bounds, reasons)))
        # A choice ahead, whose bounds there are none of.
        for at in range(6):
            self.assertIs(False, shows_cheapest(ring, W, 0, OFFERS, (found[3][at][0], found[1], found[2], found[3][:at])))

    def test_none_where_a_choice_settles(self):
        found = cheapest(ring, W, 0, OFFERS)
        for reasons in (found[3], [], [*found[3], ((0, 2), found[3][0][1]), ((0, 1, 2), found[3][0][1])]):
            self.assertIs(False, shows_cheapest(ring, W, 0, OFFERS, (None, None, None, reasons)))

    def test_what_is_wrong(self):
        choice, price, bounds, reasons = cheapest(ring, W, 0, OFFERS)
        breaks = [reason[1] for reason in reasons]
        near = [
            [choice, price, bounds, reasons], (choice, price, bounds), (choice, price, bounds, reasons, 0), (list(choice), price, bounds, reasons),
            ((2, 0), price, bounds, reasons), ((0, 1), price, bounds, reasons), ((0, 3), price, bounds, reasons), (None, price, bounds, reasons),
            ((False, 2), price, bounds, reasons), (choice, 4, bounds, reasons), (choice, None, bounds, reasons), (choice, "5", bounds, reasons),
            (choice, price, None, reasons), (choice, price, {}, reasons), (choice, price, {(-1, -1): 0}, reasons), (choice, price, [bounds], reasons),
            (choice, price, {**bounds, (0, 0): 1}, reasons), (choice, price, {**bounds, (-1, -1): -1}, reasons),
            (choice, price, {**bounds, (-1, -1): False}, reasons), (choice, price, bounds, None), (choice, price, bounds, tuple(reasons)),
            (choice, price, bounds, reasons[:-1]), (choice, price, bounds, reasons[1:]), (choice, price, bounds, [*reasons, reasons[0]]),
            (choice, price, bounds, reasons[::-1]), (choice, price, bounds, [[], *reasons[1:]]), (choice, price, bounds, [None, *reasons[1:]]),
            (choice, price, bounds, [list(reasons[0]), *reasons[1:]]), (choice, price, bounds, [((), None), *reasons[1:]]),
            (choice, price, bounds, [((),), *reasons[1:]]), (choice, price, bounds, [((), breaks[0], 0), *reasons[1:]]),
            (choice, price, bounds, [([], breaks[0]), *reasons[1:]]), (choice, price, bounds, [reasons[0], ((True,), breaks[1]), *reasons[2:]]),
            (choice, price, bounds, [*reasons[:3], ((False,), breaks[3]), *reasons[4:]]), (choice, price, bounds, breaks)]
        for thing in near + odd_things():
            self.assertIs(False, unchanged(self, shows_cheapest, ring, W, 0, OFFERS, thing), thing)

    def test_what_is_wrong_where_no_choice_settles(self):
        offers = [(0, 1)]
        right = cheapest(free, (0, 1, 0), 0, offers)
        reasons = right[3]
        self.assertIs(True, shows_cheapest(free, (0, 1, 0), 0, offers, right))
        for thing in (
                (None, None, None, reasons[:1]), (None, None, None, [*reasons, reasons[0]]), (None, 0, None, reasons), (None, None, {}, reasons),
                (None, None, False, reasons), (False, None, None, reasons), ((), None, None, reasons), (None, None, None, reasons[::-1]),
                ((), 0, {}, []), ((), 0, {(-1, -1): 0}, []), (None, None, None, [])):
            self.assertIs(False, shows_cheapest(free, (0, 1, 0), 0, offers, thing), thing)

    def test_a_price_that_is_a_bool(self):
        found = cheapest(ring, W, 1, [])
        self.assertIs(False, shows_cheapest(ring, W, 1, [], ((), False, found[2], [])))
        offers = [(0, 0), (2, 1)]
        found = cheapest(ring, W, 0, offers)
        self.assertEqual(((0, 1), 1), found[:2])
        self.assertIs(True, shows_cheapest(ring, W, 0, offers, found))
        self.assertIs(False, shows_cheapest(ring, W, 0, offers, (found[0], True, *found[2:])))
        self.assertIs(False, shows_cheapest(ring, W, 0, offers, ((False, True), *found[1:])))


class GreatestHigh(unittest.TestCase):
    def test_none_the_low_and_30(self):
        self.assertEqual([0, 30], [greatest_high(ring, W, bound) for bound in (0, 1)])
        for bound in (0, BOUND):
            self.assertIsNone(greatest_high(free, (0, 1, 0), bound))
            self.assertEqual(30, greatest_high(ring, (2, 2, 2), bound))

    def test_from_the_low_on(self):
        for low in (0, 1, 7, 30):
            source = Source(ring.program, made(wide=1, low=low, high=30))
            self.assertEqual(30, greatest_high(source, (2, 2, 2), 0))
            found = greatest_high(source, (5, 0, 0), 0)
            self.assertEqual(low, found)

    def test_the_watchers_own_high_does_not_count(self):
        for high in (0, 1, 2, 30):
            source = Source(ring.program, made(wide=1, high=high))
            self.assertEqual([0, 30], [greatest_high(source, W, bound) for bound in (0, 1)])

    def test_between(self):
        # From 0 a line of different signs leads to a mark: what is told there tells how late it is at most.
        program = (("a", (1,)), ("b", (2,)), ("c", (3,)), ("d", (4,)), ("d", ()))
        source = Source(program, made(wide=1))
        found = [greatest_high(source, (9, 5, 3, 1, 0), bound) for bound in range(0, 20)]
        spreads = [spread_of(Source(program, made(wide=1, high=high)), (9, 5, 3, 1, 0)) for high in range(31)]
        for bound in range(20):
            right = [high for high in range(31) if spreads[high] is not None and spreads[high] <= bound]
            self.assertEqual(max(right) if right else None, found[bound])
        self.assertGreater(len(set(found)), 3)

    def test_marks_stay(self):
        source = Source(ring.program, made(wide=1, high=1, marks=(0, 2)))
        self.assertEqual(30, greatest_high(source, W, 0))
        self.assertEqual((1, 1, 0, 1, (0, 2)), source.watcher)


if __name__ == "__main__":
    unittest.main()
