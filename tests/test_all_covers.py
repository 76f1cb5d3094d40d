"""apart, difference, is_within and covers against going through told lists in their order, over drawn sources."""

import unittest

from skidblame.covers import apart, behind, cover, difference, is_within, shows_apart, shows_cover
from skidblame.sources import Source
from tests.drawn import Draw
from tests.plainfits import lists_of, moves_of
from tests.plainshares import ends_behind, has_fitting, is_cover, is_ever_apart, signs_in

MOST = 4


def drawn_pairs(seed, many, places):
    """Pairs of drawn sources, the second one often the first one with little changed; the moves beside them."""
    draw = Draw(seed)
    for _ in range(many):
        # With few signs, some lists part late only.
        few = draw.below(2)
        program = draw.program(places)
        program = tuple([("a" if few and sign != "b" else sign, nexts[:2]) for sign, nexts in program])
        watcher = draw.watcher(len(program), 2, 2)
        if draw.below(2) == 0:
            watcher = (1, 1, 0, draw.below(2), ())
        if draw.below(3) == 0:
            changed = draw.program(places)
            seen = draw.watcher(len(changed), 2, 2)
        else:
            at = draw.below(len(program))
            place = (program[at][0], draw.some(range(len(program)), 2))
            changed, seen = (*program[:at], place, *program[at + 1:]), watcher
        if draw.below(3) == 0:
            seen = (*seen[:2], 0, draw.below(3), seen[4])
        yield draw, [(one, moves_of(one, told), Source(one, told)) for one, told in ((program, watcher), (changed, seen))]


def first_apart(one, other, signs):
    """The first told list of at most so many signs with a fitting for the one and none for the other, or None."""
    for told in lists_of(signs, MOST):
        if has_fitting(*one, told) and not has_fitting(*other, told):
            return told
    return None


class Apart(unittest.TestCase):
    def test_against_told_lists_in_their_order(self):
        lengths = {}
        for _, ((p1, m1, one), (p2, m2, other)) in drawn_pairs(61, 500, 4):
            signs = sorted({*signs_in(p1), *signs_in(p2)})
            plain = [first_apart((p1, m1), (p2, m2), signs), first_apart((p2, m2), (p1, m1), signs)]
            case = (p1, one.watcher, p2, other.watcher)
            for told, right, (mine, its), (here, there) in (
                    (plain[0], apart(one, other), ((p1, m1), (p2, m2)), (one, other)),
                    (plain[1], apart(other, one), ((p2, m2), (p1, m1)), (other, one))):
                self.assertIs(is_ever_apart(mine, its), right is not None, case)
                self.assertIs(right is None, is_within(here, there))
                if told is None:
                    self.assertTrue(right is None or len(right) > MOST, case)
                else:
                    self.assertEqual(told, right, case)
                    self.assertIs(True, shows_apart(here, there, right))
                    lengths[len(told)] = lengths.get(len(told), 0) + 1
            least = min([(len(told), told) for told in plain if told is not None], default=(0, None))[1]
            if least is not None:
                self.assertEqual(least, difference(one, other), case)
                self.assertEqual(least, difference(other, one), case)
            elif None in (apart(one, other), apart(other, one)):
                self.assertIn(difference(one, other), (apart(one, other), apart(other, one)))
        self.assertGreater(min([lengths[many] for many in (1, 2, 3)]), 5)

    def test_lists_that_need_many_signs(self):
        longest = 0
        for _, ((p1, m1, one), (p2, m2, other)) in drawn_pairs(62, 400, 6):
            told = apart(one, other)
            self.assertIs(is_ever_apart((p1, m1), (p2, m2)), told is not None)
            if told is not None:
                self.assertTrue(has_fitting(p1, m1, told) and not has_fitting(p2, m2, told))
                self.assertIs(True, shows_apart(one, other, told))
                # Without its last sign a least list parts nothing.
                self.assertTrue(has_fitting(p2, m2, told[:-1]))
                longest = max(longest, len(told))
        self.assertGreater(longest, 4)

    def test_which_lists_part(self):
        many = []
        for _, ((p1, m1, one), (p2, m2, other)) in drawn_pairs(63, 150, 4):
            for told in lists_of([*signs_in(p1), "zz"], 3):
                many.append(shows_apart(one, other, told))
                self.assertIs(has_fitting(p1, m1, told) and not has_fitting(p2, m2, told), many[-1])
        self.assertGreater(min(many.count(True), many.count(False)), 100)


class Covers(unittest.TestCase):
    def test_behind(self):
        for draw, ((program, moves, source), _) in drawn_pairs(64, 150, 4):
            for places in ((-1,), draw.some(range(len(program)), 2) or (0,), tuple(range(len(program)))):
                for sign in [*signs_in(program), "zz"]:
                    self.assertEqual(ends_behind(program, moves, places, sign), behind(source, places, sign))

    def test_covers(self):
        covered = 0
        for _, ((p1, m1, one), (p2, m2, other)) in drawn_pairs(65, 300, 4):
            pairs = cover(one, other)
            self.assertIs(is_ever_apart((p1, m1), (p2, m2)), pairs is None)
            if pairs is not None:
                self.assertTrue(is_cover((p1, m1), (p2, m2), pairs))
                self.assertIs(True, shows_cover(one, other, pairs))
                covered += len(pairs) > 3
        self.assertGreater(covered, 20)

    def test_which_lists_of_pairs_are_covers(self):
        told = []
        for draw, ((p1, m1, one), (p2, m2, other)) in drawn_pairs(66, 400, 3):
            for _ in range(6):
                pairs = list(cover(one, other) or [(-1, (-1,)), *[(place, (place % len(p2),)) for place in range(len(p1))]])
                if draw.below(2):
                    del pairs[draw.below(len(pairs))]
                if draw.below(2):
                    pairs.append((draw.below(len(p1) + 1) - 1, draw.some(range(len(p2)), 2) or (-1,)))
                told.append(shows_cover(one, other, pairs))
                self.assertIs(is_cover((p1, m1), (p2, m2), pairs), told[-1], (p1, one.watcher, p2, other.watcher, pairs))
        self.assertGreater(min(told.count(True), told.count(False)), 200)


if __name__ == "__main__":
    unittest.main()
