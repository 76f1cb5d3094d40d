"""What is passed is not changed, and what is returned is new: for all functions from the fittings on."""

import copy
import unittest

from skidblame.covers import apart, behind, cover, difference, is_within, shows_apart, shows_cover
from skidblame.fittings import fitting, how_many, is_fitting, reached, run_of, shows_run
from skidblame.mends import (
    breach, cheapest, choices, greatest_high, marked, settled, shows_breach, shows_cheapest)
from skidblame.programs import made
from skidblame.rules import best_papers, best_rules, rule_gains, rules_of, shows_best, wrong_share
from skidblame.shares import (
    excess_of, gains_of, share_bounds, share_of, shows_bounds, shows_round, worst_round)
from skidblame.sources import Source
from skidblame.spread import growth, shows_growth, shows_spread, spread_bounds, spread_of, widest
from skidblame.weights import counts, greatest, least, shows_greatest, shows_least, shows_none, surely
from tests.things import holders, unchanged

RING = (("a", (1,)), ("b", (2,)), ("c", (0,)))
W = (1, 0, 0)


def calls():
    """Each function with arguments of its own, right ones."""
    ring, parted = Source(RING, made(high=1)), Source(RING, made(wide=1, high=1))
    free = Source((("a", (1, 2)), ("b", (0,)), ("b", (0,))), made(gap=2, wide=2))
    bounds = {(-1, -1): 0, (0, 0): 1, (1, 1): 1, (2, 2): 1}
    for told in ([], ["b"], ["b", "b"], ["a", "b", "c", "c"], ["x"], ["b", "x", "b"]):
        yield reached, ring, told
        yield fitting, ring, told
        yield how_many, ring, told
        yield is_fitting, ring, told, [(1, 1)] * len(told)
        yield least, ring, told, W
        yield greatest, ring, told, W
        yield shows_least, ring, told, W, (0, [(1, 1)] * len(told), [{-1: 0}] + [{1: 0} for _ in told])
        yield shows_greatest, ring, told, W, (len(told), [(0, 1)] * len(told), [{-1: 0}] + [{1: k + 1} for k in range(len(told))])
        yield shows_none, ring, told, [{-1: 0}] + [{} for _ in told]
        yield counts, ring, told, (0, 2)
        if "x" not in told:
            yield surely, ring, told
    for pairs in ([], [(0, 1)], [(0, 1), (1, 1), (2, 0)]):
        yield run_of, ring, pairs
        yield shows_run, ring, pairs, ([0, 1, 2], [(0, 1)])
    for source in (ring, parted, free):
        for weights in ((0, 0, 0), W, (0, 1, 0)):
            for function in (spread_of, widest, spread_bounds, growth):
                yield function, source, weights
            yield shows_spread, source, weights, 1, dict(bounds)
            yield shows_growth, source, weights, ([(1, 1), (1, 1)], [(2, 2), (2, 2)], 1)
    yield from calls_of_shares(ring, free)
    yield from calls_of_rules(parted, Source((("a", (1,)), ("b", ())), made()))
    yield from calls_of_covers(parted, Source((("a", (1,)), ("b", (2,)), ("c", ())), made()))
    yield from calls_of_mends(parted, free)


def calls_of_shares(ring, free):
    line = Source((("a", (1,)), ("b", ()), ("c", ())), made())
    for source, prices in ((ring, (0, 1, 0)), (line, (0, 1, 0)), (free, (0, 3))):
        gains = gains_of(source, W, prices)
        yield gains_of, source, W, prices
        for function in (share_of, worst_round, share_bounds, excess_of):
            yield function, source, gains
        yield shows_round, source, gains, (1, 2), ([(0, 0), (1, 1), (0, 0)], 1)
        yield shows_bounds, source, gains, (1, 2), {-1: 0, 0: 3, 1: 3, 2: 3}


def calls_of_rules(ring, line):
    for source in (ring, line):
        rule = (0,) * len(source.program)
        yield rule_gains, source, rule
        yield wrong_share, source, rule
        for function in (best_rules, best_papers):
            yield function, source
        yield shows_best, source, (*best_rules(source), best_papers(source))
        yield all_rules, source


def calls_of_covers(ring, line):
    for one, other in ((ring, line), (line, ring), (ring, ring)):
        for function in (apart, difference, is_within, cover):
            yield function, one, other
        yield behind, one, (0, 1), "b"
        yield shows_apart, one, other, ["a", "a"]
        yield shows_cover, one, other, [(-1, (-1,)), (0, (0,)), (1, (1,)), (2, (2,))]


def calls_of_mends(ring, free):
    for source, weights in ((ring, W), (free, (0, 1, 0))):
        for bound in (0, 1):
            offers = ((0, 3), (1, 1), (2, 2))
            for function in (settled, breach, greatest_high):
                yield function, source, weights, bound
            yield shows_breach, source, weights, bound, ([(0, 0)], [(2, 0)])
            yield cheapest, source, weights, bound, list(offers)
            yield shows_cheapest, source, weights, bound, list(offers), cheapest(source, weights, bound, list(offers))
            yield marked, source, list(offers), (0, 2)
            yield all_choices, list(offers)


def all_rules(source):
    return list(rules_of(source))


def all_choices(offers):
    return list(choices(offers))


class Returned(unittest.TestCase):
    def test_nothing_that_is_passed_is_changed(self):
        for function, *things in calls():
            self.assertNotIsInstance(unchanged(self, function, *things), ValueError)

    def test_no_two_lists_or_dicts_of_one_answer_or_of_two_are_one_object(self):
        for function, *things in calls():
            parts = [*holders(function(*things)), *holders(function(*things)), *holders(tuple(things))]
            self.assertEqual(len(parts), len({id(part) for part in parts}), (function, things))

    def test_what_is_returned_may_be_changed(self):
        for function, *things in calls():
            answer = function(*things)
            kept = copy.deepcopy(answer)
            for part in holders(answer)[::-1]:
                part.clear()
            self.assertEqual(kept, function(*things), (function, things))

    def test_what_was_passed_may_be_changed_afterwards(self):
        for function, *things in calls():
            answer = function(*things)
            kept = copy.deepcopy(answer)
            for part in holders(tuple(things))[::-1]:
                part.clear()
            self.assertEqual(kept, answer, (function, things))

    def test_a_told_list_that_is_changed_afterwards(self):
        source, told = Source(RING, made(high=1)), ["b", "b"]
        answers = [reached(source, told), fitting(source, told), least(source, told, W), greatest(source, told, W)]
        kept = copy.deepcopy(answers)
        told.append("x")
        told[0] = "c"
        self.assertEqual(kept, answers)
        self.assertEqual([[-1], [2], [1], []], reached(source, told))

    def test_answers_are_of_the_kinds_that_are_told(self):
        found = {}
        for function, *things in calls():
            found.setdefault(function.__name__, set()).add(type(function(*things)))
        told = {name: sorted(kind.__name__ for kind in kinds) for name, kinds in found.items()}
        self.assertEqual({
            "reached": ["list"], "fitting": ["NoneType", "list"], "how_many": ["int"], "is_fitting": ["bool"],
            "least": ["NoneType", "tuple"], "greatest": ["NoneType", "tuple"], "shows_least": ["bool"],
            "shows_greatest": ["bool"], "shows_none": ["bool"], "counts": ["NoneType", "tuple"], "surely": ["list"],
            "run_of": ["tuple"], "shows_run": ["bool"], "spread_of": ["NoneType", "int"], "widest": ["NoneType", "tuple"],
            "spread_bounds": ["NoneType", "dict"], "growth": ["NoneType", "tuple"], "shows_spread": ["bool"],
            "shows_growth": ["bool"], "gains_of": ["tuple"], "share_of": ["NoneType", "tuple"],
            "worst_round": ["NoneType", "tuple"], "share_bounds": ["dict"], "excess_of": ["int"], "shows_round": ["bool"],
            "shows_bounds": ["bool"], "rule_gains": ["tuple"], "wrong_share": ["NoneType", "tuple"], "best_rules": ["tuple"],
            "best_papers": ["list"], "shows_best": ["bool"], "all_rules": ["list"], "apart": ["NoneType", "list"],
            "difference": ["NoneType", "list"], "is_within": ["bool"], "cover": ["NoneType", "list"], "behind": ["tuple"],
            "shows_apart": ["bool"], "shows_cover": ["bool"], "settled": ["bool"], "breach": ["NoneType", "tuple"],
            "greatest_high": ["NoneType", "int"], "shows_breach": ["bool"], "cheapest": ["tuple"], "shows_cheapest": ["bool"],
            "marked": ["Source"], "all_choices": ["list"]}, told)

    def test_calls_that_raise_change_nothing(self):
        source = Source(RING, made(high=1))
        for function, *things in ((reached, None), (least, ["b"], None), (run_of, [(2, 1)]), (spread_of, (1,)), (share_of, W),
                                  (wrong_share, None), (cheapest, W, 0, None), (marked, [], (0,))):
            self.assertIsInstance(unchanged(self, function, source, *things), ValueError)
        self.assertEqual(4, how_many(source, ["b", "b"]))


if __name__ == "__main__":
    unittest.main()
