import unittest

from skidblame.errors import NoWatcher
from skidblame.programs import is_program, is_stretch, is_watcher, made, signs_of
from tests.drawn import Draw
from tests.plain import is_walk
from tests.things import odd_things, unchanged

RING = (("a", (1,)), ("b", (2,)), ("a", (0, 2)))
WATCHER = (1, None, 0, 0, ())


def program_of(many):
    """A program of so many places, if there may be so many; each one is followed by all."""
    return (("a", tuple(range(many))),) * many


def with_nexts(nexts):
    """Three places, the middle one with these nexts."""
    return (("a", ()), ("b", nexts), ("c", (0, 1, 2)))


class Programs(unittest.TestCase):
    def test_programs(self):
        for thing in [RING, (("a", ()),), (("a", (0,)),), (("a", ()), ("a", ())), (("abcdefgh", (1,)), ("z9", (0, 1)))]:
            self.assertIs(True, is_program(thing), thing)

    def test_one_to_eight_places(self):
        self.assertEqual([False] + [True] * 8 + [False] * 4, [is_program(program_of(many)) for many in range(13)])
        self.assertEqual([False] + [True] * 8 + [False] * 4, [is_program((("a", ()),) * many) for many in range(13)])

    def test_right_nexts(self):
        for nexts in [(), (0,), (1,), (2,), (0, 1), (0, 2), (1, 2), (0, 1, 2)]:
            self.assertIs(True, is_program(with_nexts(nexts)), nexts)

    def test_wrong_nexts(self):
        for nexts in [(0, 0), (1, 1), (1, 0), (2, 1), (0, 2, 1), (0, 1, 1), (3,), (0, 3), (-1,), (-1, 0), (10 ** 12,),
                      (True,), (False,), (0, True), (False, 1), [], [0], [0, 1], None, 0, 1, "", "0", "01", {}, {0: 1},
                      ("0",), (None,), ((0,),), ([],), (0, None), ((),), True]:
            self.assertIs(False, is_program(with_nexts(nexts)), nexts)

    def test_wrong_signs(self):
        for sign in ["", "A", "1", "a-", "abcdefghi", None, 0, 1, True, ("a",), ["a"], [], {}, {"a": 1}]:
            self.assertIs(False, is_program(((sign, ()),)), sign)
            self.assertIs(False, is_program((("a", ()), (sign, (0,)))), sign)

    def test_wrong_places(self):
        for place in [("a",), ("a", (), ()), ["a", ()], "a", "ab", ((), "a"), (), None, {"a": ()}, {"a": 1, "b": 2}, 1]:
            self.assertIs(False, is_program((place,)), place)
            self.assertIs(False, is_program((("a", ()), place)), place)

    def test_lists_for_tuples(self):
        self.assertIs(False, is_program([("a", ())]))
        self.assertIs(False, is_program(list(RING)))
        self.assertIs(False, is_program({("a", ()): 1}))
        self.assertIs(False, is_program(RING[0]))

    def test_any_object_is_told_and_stays_as_it_was(self):
        for thing in odd_things():
            self.assertIs(False, unchanged(self, is_program, thing))
            self.assertIs(False, unchanged(self, is_program, (thing,)))
            self.assertIs(False, unchanged(self, is_program, (("a", ()), (thing, ()))))
        self.assertIs(True, unchanged(self, is_program, RING))


class Signs(unittest.TestCase):
    def test_ascending_each_once(self):
        self.assertEqual(["a", "b"], signs_of(RING))
        self.assertEqual(["x"], signs_of((("x", ()),) * 8))
        program = (("z", ()), ("b", ()), ("a10", ()), ("a9", ()), ("b", ()), ("a", ()), ("a1", ()))
        self.assertEqual(["a", "a1", "a10", "a9", "b", "z"], signs_of(program))

    def test_new_each_time(self):
        first = signs_of(RING)
        first.append("c")
        self.assertEqual(["a", "b"], signs_of(RING))


class Stretches(unittest.TestCase):
    def test_stretches(self):
        for thing in [[0], [1], [2], [0, 1], [1, 2], [2, 2], [2, 0], [1, 2, 2, 0], [2, 2, 2], [0, 1, 2, 0, 1, 2]]:
            self.assertIs(True, is_stretch(RING, thing), thing)

    def test_what_is_no_stretch(self):
        for thing in [[], [0, 2], [0, 0], [1, 0], [2, 1], [0, 1, 2, 1], [0, 2, 0], [3], [-1], [0, 3], [2, -1], [-1, 0],
                      [10 ** 12], [True], [False], [False, 1], [0, True], [0, True, 2], [None], ["0"], [(0,)], [[0]],
                      [0, [1]], [0, None], [0, "1"], (0,), (0, 1), (), "0", "", 0, 1, None, True, {}, {0: 1}, {0: 1, 1: 2}]:
            self.assertIs(False, is_stretch(RING, thing), thing)

    def test_a_place_that_is_its_own_next_and_an_end(self):
        program = (("a", (0, 1)), ("b", ()))
        for thing in [[0, 0, 0, 1], [1], [0, 1], [0, 0]]:
            self.assertIs(True, is_stretch(program, thing), thing)
        for thing in [[1, 1], [1, 0], [0, 1, 1], [0, 1, 0]]:
            self.assertIs(False, is_stretch(program, thing), thing)

    def test_long_ones(self):
        self.assertIs(True, is_stretch(RING, [0, 1, 2] * 33000))
        self.assertIs(False, is_stretch(RING, [0, 1, 2] * 33000 + [1]))
        self.assertIs(False, is_stretch(RING, [0, 1, 2] * 33000 + [True]))

    def test_drawn_rows_of_places(self):
        draw = Draw(5)
        told = {True: 0, False: 0}
        for _ in range(2000):
            program = draw.program(8)
            row = [draw.below(len(program)) for _ in range(1 + draw.below(4))]
            self.assertIs(is_walk(program, row), is_stretch(program, row), (program, row))
            told[is_walk(program, row)] += 1
        self.assertGreater(min(told.values()), 300)

    def test_any_object_is_told_and_stays_as_it_was(self):
        for thing in odd_things():
            self.assertIs(False, unchanged(self, is_stretch, RING, thing))
            self.assertIs(False, unchanged(self, is_stretch, RING, [0, thing]))
        self.assertIs(True, unchanged(self, is_stretch, RING, [1, 2, 0]))


class Watchers(unittest.TestCase):
    def tells(self, right, at, things):
        for thing in things:
            watcher = list(WATCHER)
            watcher[at] = thing
            self.assertIs(right, is_watcher(tuple(watcher)), watcher)

    def test_gap(self):
        self.tells(True, 0, range(1, 31))
        self.tells(False, 0, [0, 31, -1, 10 ** 12, True, False, None, "1", (1,), [1], [], {}])

    def test_wide(self):
        self.tells(True, 1, [None, *range(1, 31)])
        self.tells(False, 1, [0, 31, -1, 10 ** 12, True, False, "1", "none", (), [], {}, (1,)])

    def test_wide_from_gap_on(self):
        for gap in (2, 7, 30):
            for wide in range(-2, 34):
                self.assertIs(gap <= wide <= 30, is_watcher((gap, wide, 0, 0, ())), (gap, wide))
            self.assertIs(True, is_watcher((gap, None, 0, 0, ())))

    def test_low_and_high(self):
        for low in range(-2, 33):
            for high in range(-2, 33):
                self.assertIs(0 <= low <= high <= 30, is_watcher((1, None, low, high, ())), (low, high))
        wrong = [True, False, None, "0", (), [], {}, (0,), 10 ** 12]
        self.tells(False, 2, wrong)
        self.tells(False, 3, wrong)
        self.assertIs(False, is_watcher((1, None, 0, True, ())))
        self.assertIs(False, is_watcher((1, None, True, 1, ())))

    def test_marks(self):
        self.tells(True, 4, [(), (0,), (7,), (0, 7), (3, 4, 5), tuple(range(8))])
        self.tells(False, 4, [(8,), (-1,), (0, 8), (1, 0), (7, 0), (0, 0), (7, 7), (0, 2, 1), (True,), (False,), (0, True),
                              [], [0], None, 0, "", "0", {}, {0: 1}, (None,), ("0",), ((0,),), tuple(range(9))])

    def test_form(self):
        for thing in [WATCHER[:4], (*WATCHER, ()), list(WATCHER), (), None, {}, "watch", {k: 0 for k in range(5)}, (WATCHER,)]:
            self.assertIs(False, is_watcher(thing), thing)

    def test_any_object_is_told_and_stays_as_it_was(self):
        for thing in odd_things():
            self.assertIs(False, unchanged(self, is_watcher, thing))
            self.assertIs(False, unchanged(self, is_watcher, (1, None, 0, thing, ())))
        self.assertIs(True, unchanged(self, is_watcher, WATCHER))


class Made(unittest.TestCase):
    def test_where_nothing_is_passed(self):
        self.assertEqual((1, None, 0, 0, ()), made())

    def test_each_setting_alone(self):
        self.assertEqual((30, None, 0, 0, ()), made(gap=30))
        self.assertEqual((1, 4, 0, 0, ()), made(wide=4))
        self.assertEqual((1, None, 0, 30, ()), made(high=30))
        self.assertEqual((1, None, 0, 0, (0, 7)), made(marks=(0, 7)))

    def test_all_settings(self):
        self.assertEqual((2, 5, 3, 4, (1,)), made(gap=2, wide=5, low=3, high=4, marks=(1,)))
        self.assertEqual((2, 2, 0, 1, (1,)), made(marks=(1,), high=1, low=0, wide=2, gap=2))
        self.assertEqual((3, None, 1, 1, ()), made(gap=3, wide=None, low=1, high=1, marks=()))

    def test_what_is_no_watcher(self):
        for settings in [{"gap": 0}, {"gap": 31}, {"gap": True}, {"gap": None}, {"wide": 0}, {"wide": 31}, {"wide": True},
                         {"gap": 3, "wide": 2}, {"low": 1}, {"low": -1}, {"high": -1}, {"high": 31}, {"high": True},
                         {"low": 2, "high": 1}, {"low": None}, {"low": False}, {"marks": [0]}, {"marks": (8,)},
                         {"marks": (1, 0)}, {"marks": (0, 0)}, {"marks": None}, {"marks": {0: 1}}, {"marks": (True,)}]:
            with self.assertRaises(NoWatcher, msg=settings):
                made(**settings)

    def test_settings_are_passed_by_name_only(self):
        with self.assertRaises(TypeError):
            made(1)


if __name__ == "__main__":
    unittest.main()
