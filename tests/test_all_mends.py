"""settled, breach, cheapest and greatest_high against the spread and going through all choices, over drawn sources."""

import unittest
from itertools import combinations

from skidblame.fittings import is_fitting
from skidblame.mends import (
    breach, cheapest, choices, greatest_high, marked, settled, shows_breach, shows_cheapest)
from skidblame.sources import Source
from skidblame.spread import shows_growth, shows_spread, spread_of
from tests.drawn import drawn_sources
from tests.plainfits import weigh


def plain_settled(source, weights, bound):
    spread = spread_of(source, weights)
    return spread is not None and spread <= bound


def plain_choices(offers):
    every = [choice for many in range(len(offers) + 1) for choice in combinations(range(len(offers)), many)]
    return sorted(every, key=lambda choice: (sum([offers[index][1] for index in choice]), choice))


def plain_marked(program, watcher, offers, choice):
    return Source(program, (*watcher[:4], tuple(sorted({*watcher[4], *[offers[index][0] for index in choice]}))))


def drawn_mends(seed, many, places):
    """Drawn sources with weights, a bound and offers."""
    for draw, program, watcher, _ in drawn_sources(seed, many, places, 2, 2):
        if draw.below(2) == 0:
            program = tuple([(sign, nexts[:2]) for sign, nexts in program])
        else:
            # Rings with a sign for each place, where it hangs on the marks alone how late a sample is told.
            program = tuple([
                (f"s{place}", tuple(sorted({(place + 1) % len(program), *nexts[:draw.below(2)]})))
                for place, (_, nexts) in enumerate(program)])
        gap, wide, low, high, marks = watcher
        watcher = (gap, gap if draw.below(3) else wide, low, high, marks if draw.below(2) else ())
        free = [place for place in range(len(program)) if place not in watcher[4]]
        offers = [(place, draw.below(4)) for place in draw.some(free[::1 - 2 * draw.below(2)], 2)] if draw.below(5) else []
        weights = tuple([draw.below(4) for _ in program])
        yield draw, program, watcher, Source(program, watcher), weights, (0, 1, 3, 10 ** 9)[draw.below(4)], offers


class Mends(unittest.TestCase):
    def is_breach(self, source, weights, bound, found):
        if len(found) == 3:
            return shows_growth(source, weights, found)
        told = [source.program[r][0] for _, r in found[0]]
        self.assertTrue(is_fitting(source, told, found[0]) and is_fitting(source, told, found[1]))
        return weigh(weights, found[0]) - weigh(weights, found[1]) > bound

    def test_settled_and_breaches(self):
        told, growths = [], 0
        for _, _, _, source, weights, bound, _ in drawn_mends(71, 300, 4):
            told.append(settled(source, weights, bound))
            self.assertIs(plain_settled(source, weights, bound), told[-1])
            found = breach(source, weights, bound)
            self.assertIs(told[-1], found is None)
            if found is not None:
                self.assertTrue(self.is_breach(source, weights, bound, found))
                self.assertIs(True, shows_breach(source, weights, bound, found))
                growths += len(found) == 3
        self.assertGreater(min(told.count(True), told.count(False), growths), 30)

    def test_the_cheapest(self):
        lengths = {}
        for _, program, watcher, source, weights, bound, offers in drawn_mends(72, 1000, 5):
            order = plain_choices(offers)
            self.assertEqual(order, list(choices(offers)))
            sources = [plain_marked(program, watcher, offers, choice) for choice in order]
            self.assertEqual(sources, [marked(source, offers, choice) for choice in order])
            right = [choice for choice, mended in zip(order, sources) if plain_settled(mended, weights, bound)]
            found = cheapest(source, weights, bound, offers)
            self.assertIs(True, shows_cheapest(source, weights, bound, offers, found))
            choice, price, bounds, reasons = found
            ahead = order
            if right:
                self.assertEqual((right[0], sum([offers[index][1] for index in right[0]])), (choice, price))
                ahead = order[:order.index(choice)]
                most = max(bounds.values())
                self.assertIs(True, shows_spread(sources[len(ahead)], weights, most, bounds))
                self.assertLessEqual(most, bound)
            else:
                self.assertEqual((None, None, None), (choice, price, bounds))
            self.assertEqual(ahead, [reason[0] for reason in reasons])
            for mended, reason in zip(sources, reasons):
                self.assertTrue(self.is_breach(mended, weights, bound, reason[1]))
            lengths[len(choice or ())] = lengths.get(len(choice or ()), 0) + 1
        self.assertGreater(min(lengths[0], lengths[1], 4 * lengths[2]), 20)

    def test_the_greatest_high(self):
        found = {}
        for _, program, watcher, source, weights, bound, _ in drawn_mends(73, 300, 5):
            right = [
                high for high in range(watcher[2], 31)
                if plain_settled(Source(program, (*watcher[:3], high, watcher[4])), weights, bound)]
            most = greatest_high(source, weights, bound)
            self.assertEqual(max(right) if right else None, most)
            # What is settled with a high is settled with each lesser one.
            self.assertEqual(list(range(watcher[2], watcher[2] + len(right))), right)
            found[most] = True
        self.assertGreater(len(found), 3)


if __name__ == "__main__":
    unittest.main()
