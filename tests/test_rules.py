import unittest

from skidblame.errors import NoRule, TooMany
from skidblame.programs import made
from skidblame.rules import best_papers, best_rules, rule_gains, rules_of, shows_best, wrong_share
from skidblame.shares import shows_bounds, shows_round
from skidblame.sources import Source
from tests.things import no_rules, odd_things, unchanged

late = Source((("a", (1,)), ("b", (0,))), made(wide=1, low=1, high=1))
line = Source((("a", (1,)), ("b", ())), made())
one = Source((("a", (0,)),), made())
# Three places with the same sign, each as often as the others.
alike = Source((("a", (1,)), ("a", (2,)), ("a", (0,))), made(wide=1))


def many_signs(places, signs):
    """A source with so many places and signs, all places with the next one behind."""
    names = [f"s{min(place, signs - 1)}" for place in range(places)]
    return Source(tuple([(names[place], ((place + 1) % places,)) for place in range(places)]), made(wide=1))


class Refused(unittest.TestCase):
    def test_what_is_no_rule(self):
        for source in (late, line):
            for thing in no_rules(2, 2):
                for function in (rule_gains, wrong_share):
                    self.assertIs(NoRule, type(unchanged(self, function, source, thing)), thing)

    def test_a_place_for_each_sign(self):
        source = many_signs(4, 3)
        for many in range(6):
            for place in (-1, 0, 3, 4):
                if many == 3 and place in (0, 3):
                    self.assertEqual(4, len(rule_gains(source, (place,) * many)))
                else:
                    self.assertRaises(NoRule, rule_gains, source, (place,) * many)
                    self.assertRaises(NoRule, wrong_share, source, (place,) * many)

    def test_more_than_300_rules(self):
        for places, signs in ((7, 3), (8, 3), (5, 4), (5, 5), (8, 8)):
            source = many_signs(places, signs)
            for function, things in ((best_rules, ()), (best_papers, ()), (shows_best, (None,)), (shows_best, (((0, 1), [], []),))):
                error = unchanged(self, function, source, *things)
                self.assertIs(TooMany, type(error))
                self.assertEqual(300, error.limit)

    def test_as_many_as_300_rules(self):
        for places, signs in ((4, 4), (6, 3), (8, 2), (5, 3), (8, 1), (1, 1)):
            source = many_signs(places, signs)
            share, rules = best_rules(source)
            papers = best_papers(source)
            self.assertEqual(places ** signs, len(papers))
            self.assertIs(True, shows_best(source, (share, rules, papers)))


class AllRules(unittest.TestCase):
    def test_ascending(self):
        self.assertEqual([(0, 0), (0, 1), (1, 0), (1, 1)], list(rules_of(late)))
        self.assertEqual([(0,)], list(rules_of(one)))
        self.assertEqual([(0,), (1,), (2,)], list(rules_of(alike)))
        for places, signs in ((3, 2), (3, 3), (4, 2), (5, 4)):
            rules = list(rules_of(many_signs(places, signs)))
            self.assertEqual(places ** signs, len(rules))
            self.assertEqual(sorted(set(rules)), rules)
            self.assertEqual(((0,) * signs, (places - 1,) * signs), (rules[0], rules[-1]))

    def test_one_by_one(self):
        rules = rules_of(many_signs(8, 8))
        self.assertEqual([(0,) * 8, (0,) * 7 + (1,)], [next(rules), next(rules)])
        for _ in range(6):
            last = next(rules)
        self.assertEqual(((0,) * 7 + (7,), (0,) * 6 + (1, 0)), (last, next(rules)))

    def test_two_at_a_time(self):
        first, second = rules_of(late), rules_of(late)
        self.assertEqual([(0, 0), (0, 1), (0, 0), (1, 0)], [next(first), next(first), next(second), next(first)])


class Shares(unittest.TestCase):
    def test_gains(self):
        self.assertEqual(((0, 1), (1, 0)), rule_gains(late, (0, 1)))
        self.assertEqual(((1, 1), (0, 0)), rule_gains(late, (1, 1)))
        self.assertEqual(((1,), (0,), (1,)), rule_gains(alike, (1,)))

    def test_the_order_of_the_signs(self):
        source = Source((("b", (1,)), ("a", (0,))), made(wide=1))
        # The first place of a rule is for a, the second one for b.
        self.assertEqual((0, 1), wrong_share(source, (1, 0)))
        self.assertEqual((1, 1), wrong_share(source, (0, 1)))
        self.assertEqual((1, 2), wrong_share(source, (0, 0)))

    def test_wrong_shares(self):
        self.assertEqual([(1, 1), (1, 1), (0, 1), (1, 1)], [wrong_share(late, rule) for rule in rules_of(late)])
        self.assertEqual([(2, 3)] * 3, [wrong_share(alike, rule) for rule in rules_of(alike)])
        self.assertEqual((0, 1), wrong_share(one, (0,)))

    def test_no_round(self):
        self.assertEqual([None] * 4, [wrong_share(line, rule) for rule in rules_of(line)])


class Best(unittest.TestCase):
    def test_best_rules(self):
        self.assertEqual(((0, 1), [(1, 0)]), best_rules(late))
        self.assertEqual(((2, 3), [(0,), (1,), (2,)]), best_rules(alike))
        self.assertEqual(((0, 1), [(0,)]), best_rules(one))
        uneven = Source((("a", (1,)), ("a", (0, 2)), ("b", (0,))), made(wide=1))
        # A run can be at each of 0 and 1 every second time, and (0, 0) blames also what is told at 2 wrongly.
        self.assertEqual([(2, 3), (2, 3), (1, 2)], [wrong_share(uneven, (0, place)) for place in range(3)])
        self.assertEqual(((1, 2), [(0, 2), (1, 2)]), best_rules(uneven))

    def test_without_a_round_all_are_best(self):
        self.assertEqual((None, [(0, 0), (0, 1), (1, 0), (1, 1)]), best_rules(line))
        papers = best_papers(line)
        for rule, paper in zip(rules_of(line), papers):
            self.assertIs(True, shows_bounds(line, rule_gains(line, rule), (0, 1), paper))
        self.assertIs(True, shows_best(line, (*best_rules(line), papers)))
        self.assertIs(False, shows_best(line, ((0, 1), best_rules(line)[1], papers)))

    def test_papers(self):
        self.assertIs(True, shows_best(late, (*best_rules(late), best_papers(late))))
        papers = best_papers(late)
        self.assertEqual([tuple, tuple, dict, tuple], [type(paper) for paper in papers])
        for rule, paper in zip(rules_of(late), papers):
            if rule == (1, 0):
                self.assertIs(True, shows_bounds(late, rule_gains(late, rule), (0, 1), paper))
            else:
                self.assertIs(True, shows_round(late, rule_gains(late, rule), (1, 1), paper))

    def test_any_right_papers(self):
        share, rules = best_rules(late)
        rounds = best_papers(late)
        longer = ([(1, 0), (1, 0), (1, 0), (1, 0)], 2)
        self.assertIs(True, shows_best(late, (share, rules, [longer, *rounds[1:]])))
        self.assertIs(True, shows_best(late, (share, rules, [*rounds[:2], {-1: 3, 0: 3, 1: 3}, rounds[3]])))
        self.assertIs(False, shows_best(late, (share, rules, [*rounds[:2], {-1: 3, 0: 3, 1: 2}, rounds[3]])))
        self.assertIs(False, shows_best(late, (share, rules, [*rounds[:3], ([(1, 0), (1, 0)], 1)])))
        self.assertIs(True, shows_best(late, (share, rules, [*rounds[:3], ([(0, 1), (0, 1)], 1)])))

    def test_a_round_that_is_not_above_the_share(self):
        source = Source((("a", (1,)), ("a", (0, 2)), ("b", (0,))), made(wide=1))
        share, rules = best_rules(source)
        papers = best_papers(source)
        self.assertIs(True, shows_best(source, (share, rules, papers)))
        at = list(rules_of(source)).index((0, 0))
        # Half of these samples are blamed wrongly by (0, 0): no more than by a best rule.
        half = ([(0, 0), (1, 1), (0, 0)], 1)
        self.assertIs(True, shows_round(source, rule_gains(source, (0, 0)), share, half))
        self.assertIs(False, shows_best(source, (share, rules, [*papers[:at], half, *papers[at + 1:]])))
        more = ([(0, 0), (1, 1), (2, 2), (0, 0)], 1)
        self.assertIs(True, shows_best(source, (share, rules, [*papers[:at], more, *papers[at + 1:]])))

    def test_what_is_wrong(self):
        share, rules = best_rules(late)
        papers = best_papers(late)
        bounds = papers[2]
        near = [
            (share, rules, papers[:3]), (share, rules, [*papers, bounds]), (share, rules, tuple(papers)), (share, tuple(rules), papers),
            [share, rules, papers], (share, rules), (share, rules, papers, []), (None, rules, papers), ((0, 2), rules, papers),
            ((False, 1), rules, papers), ((0, True), rules, papers), ([0, 1], rules, papers), (0, rules, papers), ((1, 1), rules, papers),
            ((1, 2), rules, papers), (share, [(0, 1)], papers), (share, [], papers), (share, [(1, 0), (1, 0)], papers),
            (share, [(1, 0), (1, 1)], papers), (share, [[1, 0]], papers), (share, [(True, 0)], papers), (share, [(1, False)], papers),
            (share, (1, 0), papers), (share, None, papers), (share, rules, None), (share, rules, {}), (share, rules, papers[::-1]),
            (share, rules, [bounds] * 4), (share, rules, [papers[0]] * 4), (share, rules, [None] * 4), (share, rules, [*papers[:3], None]),
            (share, rules, [*papers[:2], {}, papers[3]]), (share, rules, [*papers[:2], papers[0], papers[3]]),
            (share, rules, [*papers[:2], {-1: 0, 0: -1, 1: 0}, papers[3]]), (share, rules, [*papers[:2], {-1: 0, 0: False, 1: 0}, papers[3]])]
        for thing in near + odd_things():
            self.assertIs(False, unchanged(self, shows_best, late, thing), thing)

    def test_bools_are_no_integers_where_1_is_right(self):
        share, rules = best_rules(alike)
        papers = best_papers(alike)
        self.assertIs(True, shows_best(alike, (share, rules, papers)))
        self.assertIs(False, shows_best(alike, (share, [(0,), (True,), (2,)], papers)))
        self.assertIs(False, shows_best(alike, (share, [(False,), (1,), (2,)], papers)))


if __name__ == "__main__":
    unittest.main()
