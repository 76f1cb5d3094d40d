"""Shares, bounds and rules against going through all fittings and all rules, over drawn sources."""

import unittest
from fractions import Fraction

from skidblame.rules import best_papers, best_rules, rule_gains, rules_of, shows_best, wrong_share
from skidblame.shares import excess_of, share_bounds, share_of, shows_bounds, shows_round, worst_round
from skidblame.sources import Source
from tests.drawn import drawn_sources, drawn_weights
from tests.plainfits import moves_of
from tests.plainshares import (
    are_bounds, every_rule, fittings_up_to, fraction_of, pair_of, plain_bounds, plain_mean, plain_share, signs_in, turns_of,
    wrong_of)


def drawn_gains(draw, program):
    flat = drawn_weights(draw, len(program) * len(signs_in(program)))
    many = len(signs_in(program))
    return tuple([flat[k * many:(k + 1) * many] for k in range(len(program))])


def how_many_of(moves, most):
    """How many fittings there are with at most so many pairs."""
    rows = [{-1: 1}]
    for _ in range(most):
        row = {}
        for q, _, r in moves:
            row[r] = row.get(r, 0) + rows[-1].get(q, 0)
        rows.append(row)
    return sum([sum(row.values()) for row in rows])


def few_fittings(seed, many, places, highs):
    """Drawn sources, all whose fittings with at most a pair more than places can be gone through."""
    for draw, program, watcher, _ in drawn_sources(seed, many, places, 3, highs):
        # Some of them with rings of all places.
        if draw.below(2) == 0:
            program = tuple([(sign, ((place + 1) % len(program),)) for place, (sign, _) in enumerate(program)])
        moves = moves_of(program, watcher)
        # A way to a ring and once around it has at most a pair more than there are places.
        if how_many_of(moves, len(program) + 1) <= 4000:
            yield draw, program, moves, Source(program, watcher), list(fittings_up_to(program, moves, len(program) + 1))


class Shares(unittest.TestCase):
    def agrees(self, program, moves, source, fittings, gains):
        """Tell the share, after a look at all that is told of it."""
        case = (program, source.watcher, gains)
        share = plain_share(program, fittings, gains)
        self.assertEqual(pair_of(share), share_of(source, gains), case)
        fraction = Fraction(0) if share is None else share
        bounds = plain_bounds(program, fittings, gains, fraction)
        self.assertEqual(list(bounds.items()), list(share_bounds(source, gains).items()), case)
        self.assertEqual(max(bounds.values()), excess_of(source, gains), case)
        self.assertIs(True, shows_bounds(source, gains, pair_of(fraction), bounds), case)
        if share is None:
            self.assertIsNone(worst_round(source, gains), case)
        else:
            fitting, turn = worst_round(source, gains)
            self.assertIn(turn, turns_of(fitting), case)
            self.assertEqual(share, plain_mean(program, gains, fitting, turn), case)
            self.assertIs(True, shows_round(source, gains, pair_of(share), (fitting, turn)), case)
        return share

    def test_drawn_sources(self):
        told = []
        for seed, places, highs in ((51, 2, 3), (52, 3, 3), (53, 4, 2)):
            for draw, program, moves, source, fittings in few_fittings(seed, 120, places, highs):
                told.append(self.agrees(program, moves, source, fittings, drawn_gains(draw, program)))
        self.assertGreater(len([share for share in told if share is None]), 20)
        self.assertGreater(len([share for share in told if share is not None and share < 0]), 20)
        self.assertGreater(len({share for share in told if share is not None and share.denominator > 1}), 5)

    def test_which_dicts_are_bounds(self):
        told = []
        for draw, program, moves, source, fittings in few_fittings(54, 150, 3, 3):
            gains = drawn_gains(draw, program)
            share = fraction_of(share_of(source, gains)) or Fraction(0)
            for _ in range(12):
                fraction = share + Fraction((-1, 0, 0, 1, 1)[draw.below(5)], 1 + draw.below(9))
                bounds = plain_bounds(program, fittings, gains, fraction)
                moved = {node: bounds[node] + (1, 0, 0, 0, 0, -1)[draw.below(6)] for node in bounds if draw.below(30)}
                told.append(shows_bounds(source, gains, pair_of(fraction), moved))
                self.assertIs(are_bounds(program, moves, gains, fraction, moved), told[-1], (program, gains, fraction, moved))
        self.assertGreater(min(told.count(True), told.count(False)), 200)

    def test_which_pairs_are_rounds(self):
        told = []
        for draw, program, moves, source, fittings in few_fittings(55, 60, 3, 3):
            gains = drawn_gains(draw, program)
            for fitting in fittings[::1 + len(fittings) // 20]:
                for turn in range(-1, len(fitting) + 2):
                    mean = plain_mean(program, gains, fitting, turn) if 0 < turn < len(fitting) else Fraction(0)
                    told.append(shows_round(source, gains, pair_of(mean), (fitting, turn)))
                    self.assertIs(turn in turns_of(fitting), told[-1], (program, fitting, turn))
                    self.assertIs(False, shows_round(source, gains, pair_of(mean + Fraction(1, 7)), (fitting, turn)))
        self.assertGreater(min(told.count(True), told.count(False)), 200)


class Rules(unittest.TestCase):
    def test_all_rules(self):
        many = 0
        drawn = [*few_fittings(56, 150, 3, 3), *few_fittings(57, 150, 4, 2), *few_fittings(58, 150, 4, 2)]
        for _, program, moves, source, fittings in drawn:
            rules = every_rule(program)
            if len(rules) > 64 or len(rules) * len(fittings) > 2 * 10 ** 4:
                continue
            self.assertEqual(rules, list(rules_of(source)))
            shares = [plain_share(program, fittings, wrong_of(program, rule)) for rule in rules]
            for rule, share in zip(rules, shares):
                self.assertEqual(wrong_of(program, rule), rule_gains(source, rule))
                self.assertEqual(pair_of(share), wrong_share(source, rule), (program, rule))
            least = None if None in shares else min(shares)
            best = [rule for rule, share in zip(rules, shares) if share == least]
            self.assertEqual((pair_of(least), best), best_rules(source))
            papers = best_papers(source)
            self.papers_hold(program, moves, rules, least, best, papers)
            self.assertIs(True, shows_best(source, (pair_of(least), best, papers)))
            many += least is not None and least.denominator > 1
        self.assertGreater(many, 3)

    def papers_hold(self, program, moves, rules, least, best, papers):
        self.assertEqual(len(rules), len(papers))
        for rule, paper in zip(rules, papers):
            if rule in best:
                self.assertTrue(are_bounds(program, moves, wrong_of(program, rule), least or Fraction(0), paper))
            else:
                self.assertIn(paper[1], turns_of(paper[0]))
                self.assertGreater(plain_mean(program, wrong_of(program, rule), *paper), least)


if __name__ == "__main__":
    unittest.main()
