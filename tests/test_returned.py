"""What is passed is not changed, and what is returned is new: for all that fittings, weights and spread tell."""

import copy
import unittest

from skidblame.fittings import fitting, how_many, is_fitting, reached, run_of, shows_run
from skidblame.programs import made
from skidblame.sources import Source
from skidblame.spread import growth, shows_growth, shows_spread, spread_bounds, spread_of, widest
from skidblame.weights import counts, greatest, least, shows_greatest, shows_least, shows_none, surely
from tests.things import holders, unchanged

RING = (("a", (1,)), ("b", (2,)), ("c", (0,)))
W = (1, 0, 0)


def calls():
    """Each function with arguments of its own, right ones."""
    ring, parted = Source(RING, made(high=1)), Source(RING, made(wide=1, high=1))
    free = Source((("a", (1, 2)), ("b", (0,)), ("b", (0,))), made(gap=2, wide=2))
    bounds = {(-1, -1): 0, (0, 0): 1, (1, 1): 1, (2, 2): 1}
    for told in ([], ["b"], ["b", "b"], ["a", "b", "c", "c"], ["x"], ["b", "x", "b"]):
        yield reached, ring, told
        yield fitting, ring, told
        yield how_many, ring, told
        yield is_fitting, ring, told, [(1, 1)] * len(told)
        yield least, ring, told, W
        yield greatest, ring, told, W
        yield shows_least, ring, told, W, (0, [(1, 1)] * len(told), [{-1: 0}] + [{1: 0} for _ in told])
        yield shows_greatest, ring, told, W, (len(told), [(0, 1)] * len(told), [{-1: 0}] + [{1: k + 1} for k in range(len(told))])
        yield shows_none, ring, told, [{-1: 0}] + [{} for _ in told]
        yield counts, ring, told, (0, 2)
        if "x" not in told:
            yield surely, ring, told
    for pairs in ([], [(0, 1)], [(0, 1), (1, 1), (2, 0)]):
        yield run_of, ring, pairs
        yield shows_run, ring, pairs, ([0, 1, 2], [(0, 1)])
    for source in (ring, parted, free):
        for weights in ((0, 0, 0), W, (0, 1, 0)):
            for function in (spread_of, widest, spread_bounds, growth):
                yield function, source, weights
            yield shows_spread, source, weights, 1, dict(bounds)
            yield shows_growth, source, weights, ([(1, 1), (1, 1)], [(2, 2), (2, 2)], 1)


class Returned(unittest.TestCase):
    def test_nothing_that_is_passed_is_changed(self):
        for function, *things in calls():
            self.assertNotIsInstance(unchanged(self, function, *things), ValueError)

    def test_no_two_lists_or_dicts_of_one_answer_or_of_two_are_one_object(self):
        for function, *things in calls():
            parts = [*holders(function(*things)), *holders(function(*things)), *holders(tuple(things))]
            self.assertEqual(len(parts), len({id(part) for part in parts}), (function, things))

    def test_what_is_returned_may_be_changed(self):
        for function, *things in calls():
            answer = function(*things)
            kept = copy.deepcopy(answer)
            for part in holders(answer)[::-1]:
                part.clear()
            self.assertEqual(kept, function(*things), (function, things))

    def test_what_was_passed_may_be_changed_afterwards(self):
        for function, *things in calls():
            answer = function(*things)
            kept = copy.deepcopy(answer)
            for part in holders(tuple(things))[::-1]:
                part.clear()
            self.assertEqual(kept, answer, (function, things))

    def test_a_told_list_that_is_changed_afterwards(self):
        source, told = Source(RING, made(high=1)), ["b", "b"]
        answers = [reached(source, told), fitting(source, told), least(source, told, W), greatest(source, told, W)]
        kept = copy.deepcopy(answers)
        told.append("x")
        told[0] = "c"
        self.assertEqual(kept, answers)
        self.assertEqual([[-1], [2], [1], []], reached(source, told))

    def test_answers_are_of_the_kinds_that_are_told(self):
        found = {}
        for function, *things in calls():
            found.setdefault(function.__name__, set()).add(type(function(*things)))
        told = {name: sorted(kind.__name__ for kind in kinds) for name, kinds in found.items()}
        self.assertEqual({
            "reached": ["list"], "fitting": ["NoneType", "list"], "how_many": ["int"], "is_fitting": ["bool"],
            "least": ["NoneType", "tuple"], "greatest": ["NoneType", "tuple"], "shows_least": ["bool"],
            "shows_greatest": ["bool"], "shows_none": ["bool"], "counts": ["NoneType", "tuple"], "surely": ["list"],
            "run_of": ["tuple"], "shows_run": ["bool"], "spread_of": ["NoneType", "int"], "widest": ["NoneType", "tuple"],
            "spread_bounds": ["NoneType", "dict"], "growth": ["NoneType", "tuple"], "shows_spread": ["bool"],
            "shows_growth": ["bool"]}, told)

    def test_calls_that_raise_change_nothing(self):
        source = Source(RING, made(high=1))
        for function, *things in ((reached, None), (least, ["b"], None), (run_of, [(2, 1)]), (spread_of, (1,))):
            self.assertIsInstance(unchanged(self, function, source, *things), ValueError)
        self.assertEqual(4, how_many(source, ["b", "b"]))


if __name__ == "__main__":
    unittest.main()
