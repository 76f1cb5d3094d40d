import unittest

from skidblame.errors import NoFit, NoMark, NoName, NoWeights, TooMany
from skidblame.live import Watch, widths
from skidblame.programs import made
from skidblame.sources import Source
from skidblame.weights import greatest, least
from tests.things import no_weights, odd_things, unchanged

RING = (("a", (1,)), ("b", (2,)), ("c", (0,)))
ring = Source(RING, made(wide=1, high=1))
fork = Source((("s", (1, 2)), ("x", (3,)), ("x", (3,)), ("y", ())), made(wide=1))
NAMES = [f"n{number}" for number in range(12)]
W = (1, 0, 0)


def shown(watch):
    """All that a watch tells."""
    return (watch.signs, watch.places, len(watch), watch.names(), [watch.between(name) for name in watch.names()], widths(watch))


def watched(told, source=ring, **kept):
    """A watch that was told some signs, behind keeping weights."""
    watch = Watch(source)
    for name in kept:
        watch.keep(name, kept[name])
    for sign in told:
        watch(sign)
    return watch


class Telling(unittest.TestCase):
    def test_nothing_told(self):
        watch = Watch(ring)
        self.assertIs(ring, watch.source)
        self.assertEqual(([], [-1], 0, [], [], {}), shown(watch))
        watch.keep("w", W)
        self.assertEqual(([], [-1], 0, ["w"], [(0, 0)], {"w": 0}), shown(watch))

    def test_told_sign_by_sign(self):
        watch = Watch(ring)
        for many, (sign, places) in enumerate((("b", [1]), ("a", [0]), ("b", [1]), ("c", [2])), 1):
            self.assertEqual(places, watch(sign))
            self.assertEqual((places, many), (watch.places, len(watch)))
        self.assertEqual(["b", "a", "b", "c"], watch.signs)

    def test_several_places(self):
        watch = Watch(fork)
        self.assertEqual([1, 2], watch("x"))
        self.assertEqual([1, 2], watch.places)
        self.assertEqual([3], watch("y"))

    def test_signs_that_cannot_come_next(self):
        watch = watched(["a", "c"])
        before = shown(watch)
        for sign in ("c", "x", "y", "A", "", "a b", "abcdefghi", "-"):
            self.assertRaises(NoFit, watch, sign)
            self.assertEqual(before, shown(watch))
        watch = watched(["x", "y"], fork)
        for sign in ("s", "x", "y"):
            self.assertRaises(NoFit, watch, sign)

    def test_what_is_no_sign(self):
        watch = watched(["a"], w=W)
        before = shown(watch)
        for thing in odd_things() + [("b",), ["b"], {"b": 0}, b"b"[:0], 1, None, True, "b ", " b", "B"]:
            if thing == "a":
                continue
            self.assertIs(NoFit, type(unchanged(self, watch, thing)), thing)
            self.assertEqual(before, shown(watch))
        self.assertEqual([1], watch("b"))

    def test_lists_that_are_returned_are_new(self):
        watch = watched(["x"], fork, w=(1, 2, 3, 4))
        for told in (watch("y"), watch.places, watch.signs, watch.names(), widths(watch)):
            told.clear()
        self.assertEqual((["x", "y"], [3], 2, ["w"], [(6, 7)], {"w": 1}), (
            watch.signs, watch.places, len(watch), watch.names(), [watch.between("w")], widths(watch)))


class UndoAndRedo(unittest.TestCase):
    def test_nothing_to_undo_or_to_tell_again(self):
        watch = Watch(ring)
        self.assertRaises(NoMark, watch.undo)
        self.assertRaises(NoMark, watch.redo)
        watch("a")
        self.assertRaises(NoMark, watch.redo)
        self.assertIsNone(watch.undo())
        self.assertRaises(NoMark, watch.undo)
        self.assertEqual(([], [-1], 0, [], [], {}), shown(watch))

    def test_all_and_again(self):
        told = ["b", "a", "b", "c", "b"]
        watch = watched(told, w=W)
        steps = [shown(watch)]
        for _ in told:
            self.assertIsNone(watch.undo())
            steps.append(shown(watch))
        self.assertRaises(NoMark, watch.undo)
        self.assertEqual(([], [-1], 0, ["w"], [(0, 0)], {"w": 0}), steps[-1])
        for step in steps[-2::-1]:
            self.assertIsNone(watch.redo())
            self.assertEqual(step, shown(watch))
        self.assertRaises(NoMark, watch.redo)

    def test_a_new_sign_behind_an_undo(self):
        watch = watched(["b", "a", "b"])
        watch.undo()
        watch.undo()
        self.assertEqual([2], watch("c"))
        self.assertRaises(NoMark, watch.redo)
        self.assertEqual(["b", "c"], watch.signs)
        # Also the sign that was undone itself is a new one.
        watch.undo()
        watch("c")
        self.assertRaises(NoMark, watch.redo)

    def test_a_refused_sign_behind_an_undo(self):
        watch = watched(["b", "a", "b"])
        watch.undo()
        watch.undo()
        for thing in ("x", None, "b2", ["b"]):
            self.assertRaises(NoFit, watch, thing)
        watch.redo()
        watch.redo()
        self.assertEqual(["b", "a", "b"], watch.signs)

    def test_weights_are_not_touched(self):
        watch = watched(["b", "a"])
        watch.undo()
        watch.keep("late", (0, 5, 0))
        watch.redo()
        self.assertEqual(["late"], watch.names())
        watch.undo()
        watch.undo()
        self.assertEqual(["late"], watch.names())
        watch.keep("more", W)
        watch.forget("late")
        watch.redo()
        watch.redo()
        self.assertEqual((["b", "a"], ["more"]), (watch.signs, watch.names()))
        self.assertEqual((0, 1), watch.between("more"))

    def test_refused_weights_behind_an_undo(self):
        watch = watched(["b", "a"], w=W)
        watch.undo()
        before = shown(watch)
        for name, weights in ((None, W), ("w", None), ("A", W), ("x", (1, 0))):
            self.assertRaises(ValueError, watch.keep, name, weights)
        self.assertRaises(NoName, watch.forget, "x")
        self.assertRaises(NoName, watch.between, "x")
        self.assertEqual(before, shown(watch))
        watch.redo()
        self.assertEqual(["b", "a"], watch.signs)


class Keeping(unittest.TestCase):
    def test_weights_that_are_kept_late(self):
        told = ["b", "a", "b", "c"]
        early, late = watched(told, w=(5, -3, 2)), watched(told)
        late.keep("w", (5, -3, 2))
        self.assertEqual(shown(early), shown(late))
        self.assertEqual((least(ring, told, (5, -3, 2))[0], greatest(ring, told, (5, -3, 2))[0]), late.between("w"))
        late("a")
        self.assertEqual((least(ring, [*told, "a"], (5, -3, 2))[0], greatest(ring, [*told, "a"], (5, -3, 2))[0]), late.between("w"))

    def test_in_the_place_of_others(self):
        watch = watched(["b"], w=W)
        self.assertEqual((0, 1), watch.between("w"))
        self.assertIsNone(watch.keep("w", (0, 7, 0)))
        self.assertEqual((0, 7), watch.between("w"))
        self.assertEqual(["w"], watch.names())

    def test_twelve_names_and_a_thirteenth(self):
        watch = watched(["b"])
        for name in NAMES[::-1]:
            watch.keep(name, W)
        self.assertEqual(sorted(NAMES), watch.names())
        before = shown(watch)
        with self.assertRaises(TooMany) as caught:
            watch.keep("more", W)
        self.assertEqual(12, caught.exception.limit)
        self.assertEqual(before, shown(watch))
        watch.keep("n3", (0, 1, 0))
        self.assertEqual(sorted(NAMES), watch.names())
        watch.forget("n4")
        watch.keep("more", W)
        self.assertEqual(12, len(watch.names()))
        self.assertRaises(TooMany, watch.keep, "n4", W)

    def test_what_is_no_name(self):
        watch = watched(["b"], w=W)
        before = shown(watch)
        for thing in odd_things() + ["W", "1w", "abcdefghi", "w ", ("w",), ["w"], b"w"[:0]]:
            if thing == "a":
                continue
            self.assertIs(NoName, type(unchanged(self, watch.keep, thing, W)), thing)
            self.assertIs(NoName, type(unchanged(self, watch.keep, thing, None)), thing)
            self.assertIs(NoName, type(unchanged(self, watch.forget, thing)), thing)
            self.assertIs(NoName, type(unchanged(self, watch.between, thing)), thing)
            self.assertIs(False, thing in watch)
        for name in ("x", "ww", "w1"):
            self.assertRaises(NoName, watch.forget, name)
            self.assertRaises(NoName, watch.between, name)
            self.assertIs(False, name in watch)
        self.assertEqual(before, shown(watch))

    def test_what_is_no_weights(self):
        watch = watched(["b"])
        for name in NAMES:
            watch.keep(name, W)
        before = shown(watch)
        for thing in no_weights(3):
            # For a new name beside twelve, too: what is no weights is told first.
            for name in ("n3", "more"):
                self.assertIs(NoWeights, type(unchanged(self, watch.keep, name, thing)), thing)
        self.assertEqual(before, shown(watch))

    def test_forgotten(self):
        watch = watched(["b"], w=W, v=(0, 1, 0))
        self.assertEqual([True, True, False], [name in watch for name in ("v", "w", "x")])
        self.assertIsNone(watch.forget("w"))
        self.assertEqual([True, False], [name in watch for name in ("v", "w")])
        self.assertEqual(["v"], watch.names())
        self.assertRaises(NoName, watch.between, "w")
        self.assertRaises(NoName, watch.forget, "w")
        self.assertEqual((0, 1), watch.between("v"))

    def test_widths(self):
        watch = watched(["b"], w=W, v=(3, 0, 9), a=(2, 2, 2))
        self.assertEqual({"a": 0, "v": 3, "w": 1}, widths(watch))
        self.assertEqual(["a", "v", "w"], list(widths(watch)))
        self.assertEqual({}, widths(Watch(ring)))

    def test_great_weights(self):
        watch = watched(["b"], w=(10 ** 6, -10 ** 6, 0))
        self.assertEqual((-10 ** 6, 10 ** 6), watch.between("w"))
        self.assertEqual({"w": 2 * 10 ** 6}, widths(watch))

    def test_two_watches_of_a_source(self):
        one, other = watched(["b"], w=W), watched(["a"])
        other("b")
        one.undo()
        self.assertEqual(([], ["a", "b"], []), (one.signs, other.signs, other.names()))


class Long(unittest.TestCase):
    def test_a_long_history(self):
        source = Source(RING, made(high=1))
        watch = Watch(source)
        watch.keep("w", W)
        for _ in range(700):
            for sign in "abc":
                watch(sign)
        self.assertEqual((0, 1400), watch.between("w"))
        for _ in range(2100):
            watch.undo()
        self.assertEqual((0, 0), watch.between("w"))


if __name__ == "__main__":
    unittest.main()
