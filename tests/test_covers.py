import unittest

from skidblame.covers import apart, behind, cover, difference, is_within, shows_apart, shows_cover
from skidblame.fittings import reached
from skidblame.programs import made
from skidblame.sources import Source
from tests.things import no_told_lists, odd_things, unchanged

ring = Source((("a", (1,)), ("b", (2,)), ("c", (0,))), made())
line = Source((("a", (1,)), ("b", (2,)), ("c", ())), made())
LINE_COVER = [(-1, (-1,)), (0, (0,)), (1, (1,)), (2, (2,))]
# Each run ends behind so many places.
short = Source((("a", (1,)), ("a", (2,)), ("a", ())), made(wide=1))
longer = Source((("a", (1,)), ("a", (2,)), ("a", (3,)), ("a", ())), made(wide=1))
both = Source((("a", (1, 2)), ("x", (3,)), ("x", (4,)), ("y", ()), ("z", ())), made(wide=1))
single = Source((("a", (1,)), ("x", (2, 3)), ("y", ()), ("z", ())), made(wide=1))


class Behind(unittest.TestCase):
    def test_places_behind(self):
        self.assertEqual([(1,), (2,), (), ()], [
            behind(line, (-1,), "b"), behind(line, (0, 1), "c"), behind(line, (2,), "c"), behind(line, (0, 1, 2), "x")])
        self.assertEqual((0,), behind(ring, (0,), "a"))
        self.assertEqual((1, 2), behind(both, (0,), "x"))
        self.assertEqual((3,), behind(both, (1, 2), "y"))
        self.assertEqual((), behind(both, (2,), "y"))
        self.assertEqual((0,), behind(both, (-1,), "a"))

    def test_the_same_as_reached(self):
        for told in ([], ["a"], ["a", "x"], ["a", "x", "z"], ["x", "x"], ["y"]):
            places = (-1,)
            for sign in told:
                places = behind(both, places, sign)
            self.assertEqual(tuple(reached(both, told)[-1]), places)


class Apart(unittest.TestCase):
    def test_least_lists(self):
        self.assertEqual(["a", "a"], apart(ring, line))
        self.assertIsNone(apart(line, ring))
        self.assertEqual([True, False], [is_within(line, ring), is_within(ring, line)])
        self.assertEqual(["a", "a"], difference(ring, line))
        self.assertEqual(["a", "a"], difference(line, ring))

    def test_equal_sources(self):
        for source in (ring, line, short, both):
            same = Source(source.program, source.watcher)
            self.assertIsNone(apart(source, same))
            self.assertIsNone(apart(source, source))
            self.assertIsNone(difference(source, same))
            self.assertIs(True, is_within(source, source))
            self.assertIs(True, shows_cover(source, same, cover(source, same)))

    def test_sources_that_are_not_equal_and_tell_the_same(self):
        self.assertIsNone(difference(both, single))
        self.assertIs(True, is_within(both, single))
        self.assertIs(True, is_within(single, both))
        self.assertIs(True, shows_cover(both, single, cover(both, single)))
        self.assertIs(True, shows_cover(single, both, cover(single, both)))

    def test_a_list_of_one_sign(self):
        other = Source((("a", (1,)), ("d", (2,)), ("c", (0,))), made())
        self.assertEqual(["b"], apart(ring, other))
        self.assertEqual(["d"], apart(other, ring))
        self.assertEqual(["b"], difference(ring, other))
        self.assertEqual(["b"], difference(other, ring))

    def test_signs_that_only_one_of_both_has(self):
        other = Source((("a", (1,)), ("b", (2,)), ("c", (3,)), ("d", ())), made())
        self.assertIsNone(apart(line, other))
        self.assertEqual(["d"], apart(other, line))
        self.assertEqual(["d"], difference(line, other))
        alone = Source((("x", ()),), made())
        self.assertEqual([["x"], ["a"], ["a"], ["a"]], [
            apart(alone, line), apart(line, alone), difference(line, alone), difference(alone, line)])

    def test_lists_that_part_on_more_signs_only(self):
        self.assertIsNone(apart(short, longer))
        self.assertEqual(["a"] * 4, apart(longer, short))
        for many in range(1, 8):
            ended = Source(tuple([("a", (place + 1,) if place < many - 1 else ()) for place in range(many)]), made(wide=1))
            loop = Source((("a", (0,)),), made())
            self.assertEqual(["a"] * (many + 1), apart(loop, ended))
            self.assertIs(True, is_within(ended, loop))

    def test_the_fewest_signs_and_then_the_least(self):
        # Both ["z"] and ["a", "a"] part them: the one with fewer signs is told.
        one = Source((("a", (0, 1)), ("z", ())), made())
        other = Source((("a", ()),), made())
        self.assertEqual(["z"], apart(one, other))
        # Of ["b", "c"] and ["c", "b"] the one that is the least as a list.
        one = Source((("c", (1,)), ("b", (0,))), made(wide=1))
        other = Source((("c", ()), ("b", ())), made())
        self.assertEqual(["b"], apart(one, other))
        other = Source((("c", (1,)), ("b", ())), made(wide=1))
        self.assertEqual(["b", "c"], apart(one, other))
        self.assertEqual(["b", "c"], difference(other, one))
        two = Source((("c", (0, 1)), ("b", (0, 1))), made(wide=1))
        self.assertEqual(["b", "b"], apart(two, one))
        self.assertEqual(["b", "b"], difference(one, two))

    def test_the_lesser_one_of_both_sides(self):
        one = Source((("a", (1, 2)), ("b", ()), ("c", ())), made(wide=1))
        other = Source((("a", (1, 2)), ("b", (2,)), ("d", ())), made(wide=1))
        self.assertEqual([["c"], ["d"]], [apart(one, other), apart(other, one)])
        self.assertEqual([["c"], ["c"]], [difference(one, other), difference(other, one)])
        # One side needs more signs.
        other = Source((("a", (1,)), ("b", (0,)), ("c", ())), made(wide=1))
        self.assertEqual([["c"], ["b", "a"]], [apart(one, other), apart(other, one)])
        self.assertEqual([["c"], ["c"]], [difference(one, other), difference(other, one)])

    def test_shown(self):
        for one, other in ((ring, line), (longer, short), (ring, both), (both, ring)):
            self.assertIs(True, unchanged(self, shows_apart, one, other, apart(one, other)))
            self.assertIs(False, shows_apart(other, one, apart(one, other)))
        self.assertIs(True, shows_apart(ring, line, ["b", "a", "c"]))
        self.assertIs(True, shows_apart(ring, line, ["b", "c", "c"]))
        self.assertIs(True, shows_apart(ring, line, ["b"] * 50))
        for thing in ([], ["a"], ["a", "b", "c"], ["d"], ["b", "a", "d"], ["a", "c"]):
            self.assertIs(False, shows_apart(ring, line, thing))

    def test_what_is_no_told_list(self):
        for thing in no_told_lists() + odd_things():
            self.assertIs(False, unchanged(self, shows_apart, ring, line, thing), thing)
        for thing in (("a", "a"), ["a", 1], ["a", None], [["a", "a"]], "aa"):
            self.assertIs(False, shows_apart(ring, line, thing))


class Covers(unittest.TestCase):
    def test_covers(self):
        self.assertIsNone(cover(ring, line))
        self.assertIs(True, unchanged(self, shows_cover, line, ring, cover(line, ring)))
        self.assertIs(True, shows_cover(line, ring, LINE_COVER))
        self.assertIs(True, shows_cover(short, longer, cover(short, longer)))

    def test_no_cover_is_shown_where_there_is_none(self):
        for thing in (LINE_COVER, cover(line, ring), [(-1, (-1,)), (0, (0,)), (1, (1,)), (2, (0, 1, 2))], [(-1, (-1,))]):
            self.assertIs(False, shows_cover(ring, line, thing))

    def test_any_order_and_more_pairs(self):
        self.assertIs(True, shows_cover(line, ring, LINE_COVER[::-1]))
        for more in ((0, (1,)), (2, (1, 2)), (2, (-1,)), (-1, (0,)), (-1, (0, 1, 2)), (1, (0, 1, 2))):
            self.assertIs(True, shows_cover(line, ring, [*LINE_COVER, more]), more)

    def test_a_smaller_tuple_than_all_places_behind(self):
        found = cover(both, both)
        self.assertIn((1, (1, 2)), found)
        self.assertIs(True, shows_cover(both, both, found))
        self.assertIs(True, shows_cover(both, both, [(-1, (-1,)), (0, (0,)), (1, (1,)), (2, (2,)), (3, (3,)), (4, (4,))]))
        self.assertIs(False, shows_cover(both, both, [(-1, (-1,)), (0, (0,)), (1, (2,)), (2, (1,)), (3, (3,)), (4, (4,))]))

    def test_a_greater_tuple_than_the_places_behind(self):
        self.assertIs(False, shows_cover(line, ring, [(-1, (-1,)), (0, (0, 1)), (1, (1,)), (2, (2,))]))
        self.assertIs(False, shows_cover(line, ring, [(-1, (-1,)), (0, (0,)), (1, (1,)), (2, (1, 2))]))

    def test_a_pair_more_whose_moves_are_not_covered(self):
        late = Source((("a", (1,)), ("b", (2,)), ("c", ())), made(wide=1))
        pairs = cover(late, late)
        self.assertIs(True, shows_cover(late, late, pairs))
        # From 2 of the other one nothing comes behind.
        self.assertIs(False, shows_cover(late, late, [*pairs, (0, (2,))]))
        self.assertIs(False, shows_cover(late, late, [*pairs, (-1, (0,))]))
        self.assertIs(True, shows_cover(late, late, [*pairs, (2, (0,))]))
        self.assertIs(True, shows_cover(late, late, [*pairs, (0, (0, 2))]))

    def test_a_pair_less_or_twice(self):
        for at in range(4):
            self.assertIs(False, shows_cover(line, ring, LINE_COVER[:at] + LINE_COVER[at + 1:]))
            self.assertIs(False, shows_cover(line, ring, [*LINE_COVER, LINE_COVER[at]]))
        self.assertIs(False, shows_cover(line, ring, []))

    def test_what_is_no_cover(self):
        for pair in (
                [0, (0,)], (0, [0]), (0, ()), (0, (0, 0)), (0, (1, 0)), (0, (-1, 0)), (0, (3,)), (3, (0,)), (-2, (0,)), (0, (-2,)), (0,),
                (0, (0,), 0), (0, 0), (True, (0,)), (0, (True,)), (0, (False,)), (None, (0,)), (0, None), ("0", (0,)), (0, ("0",)), {0: (0,)},
                (0, (None,)), (0, ((0,),)), None, 0, (), [], "", (0, {0: 0}), ((0,), 0), (-1, (-1, -1)), (0, (10 ** 12,)), (10 ** 12, (0,))):
            self.assertIs(False, unchanged(self, shows_cover, line, ring, [*LINE_COVER, pair]), pair)
            self.assertIs(False, unchanged(self, shows_cover, line, ring, [pair, *LINE_COVER]), pair)
        # Nothing comes behind 2, so that only its own form can make a pair with 2 wrong.
        for places in ((), (0, 0), (1, 0), (3,), (-1, 0), (-2,), (True,), [0], None, 0):
            self.assertIs(False, shows_cover(line, ring, [*LINE_COVER, (2, places)]), places)
        for thing in (tuple(LINE_COVER), dict(LINE_COVER), {pair: True for pair in LINE_COVER}, [LINE_COVER], None, *odd_things()):
            self.assertIs(False, unchanged(self, shows_cover, line, ring, thing), thing)

    def test_places_of_the_one_and_of_the_other(self):
        three = Source((("a", (0,)), ("a", ()), ("a", ())), made())
        one = Source((("a", (0,)),), made())
        self.assertIs(True, shows_cover(one, three, [(-1, (-1,)), (0, (0,)), (0, (0, 2))]))
        self.assertIs(False, shows_cover(one, three, [(-1, (-1,)), (0, (0,)), (2, (0,))]))
        self.assertIs(True, shows_cover(three, one, [(-1, (-1,)), (0, (0,)), (2, (0,))]))
        self.assertIs(False, shows_cover(three, one, [(-1, (-1,)), (0, (0,)), (0, (0, 2))]))

    def test_a_great_cover(self):
        full = Source((("a", tuple(range(8))),) * 8, made(wide=1))
        tuples = [tuple([place for place in range(8) if mask >> place & 1]) for mask in range(1, 256)]
        every = [(place, places) for place in range(-1, 8) for places in [(-1,), *tuples]]
        self.assertIs(True, shows_cover(full, full, every))
        ended = Source((("a", tuple(range(8))),) * 7 + (("a", ()),), made(wide=1))
        self.assertIs(False, shows_cover(full, ended, every))
        self.assertIs(True, shows_cover(ended, full, every))


if __name__ == "__main__":
    unittest.main()
