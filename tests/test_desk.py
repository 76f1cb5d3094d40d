import unittest

from skidblame.desk import Desk
from skidblame.errors import (
    Mismatch, NoFit, NoMark, NoName, NoProgram, NoWatcher, NoWeights, TooMany, Unkept)
from skidblame.live import Watch
from skidblame.mends import settled, shows_breach
from skidblame.programs import made
from skidblame.sources import Source
from tests.things import no_weights, odd_things, unchanged

RING = (("a", (1,)), ("b", (2,)), ("c", (0,)))
W = (1, 0, 0)
NAMES = [f"n{number}" for number in range(12)]


def ring_desk(*operations, high=0):
    return Desk.of(Source(RING, made(wide=1, high=high)), list(operations))


def shown(desk):
    """All that a desk tells, a thing that would be done again left out."""
    names = desk.names()
    return (desk.now.program, desk.now.watcher, desk.notes(), names, [desk[name] for name in names], desk.promises(), len(desk))


KEPT = (("weights", "zero", W), ("promise", "zero", 0))


class Operations(unittest.TestCase):
    def test_at_first(self):
        source = Source(RING, made(wide=1))
        desk = Desk(source)
        self.assertEqual(source, desk.now)
        self.assertEqual(([], [], {}, 0), (desk.notes(), desk.names(), desk.promises(), len(desk)))

    def test_each_sort(self):
        desk = ring_desk()
        for operation, watcher in (
                (("watch", 2, None, 1, 3), (2, None, 1, 3, ())), (("mark", 2), (2, None, 1, 3, (2,))), (("mark", 0), (2, None, 1, 3, (0, 2))),
                (("unmark", 2), (2, None, 1, 3, (0,))), (("watch", 1, 1, 0, 0), (1, 1, 0, 0, (0,)))):
            self.assertIsNone(desk.do(operation))
            self.assertEqual((RING, watcher), (desk.now.program, desk.now.watcher))
        desk.do(("place", 1, "b2", (0, 2)))
        self.assertEqual((("a", (1,)), ("b2", (0, 2)), ("c", (0,))), desk.now.program)
        desk.do(("weights", "w", W))
        self.assertEqual((W, ["w"], 1), (desk["w"], desk.names(), len(desk)))
        desk.do(("weights", "v", (0, 0, 5)))
        desk.do(("weights", "w", (0, 5, 0)))
        self.assertEqual(([(0, 0, 5), (0, 5, 0)], ["v", "w"]), ([desk[name] for name in desk.names()], desk.names()))
        desk.do(("promise", "w", 7))
        desk.do(("promise", "v", 10 ** 9))
        self.assertEqual([("v", 10 ** 9), ("w", 7)], list(desk.promises().items()))
        desk.do(("release", "w"))
        self.assertEqual({"v": 10 ** 9}, desk.promises())
        desk.do(("drop", "w"))
        self.assertEqual((["v"], [True, False]), (desk.names(), [name in desk for name in ("v", "w")]))
        self.assertEqual(13, len(desk.notes()))
        self.assertEqual([("promise", "v", 10 ** 9), ("release", "w"), ("drop", "w")], desk.notes()[-3:])

    def test_a_promise_in_the_place_of_one(self):
        desk = ring_desk(*KEPT, ("promise", "zero", 3), high=0)
        self.assertEqual({"zero": 3}, desk.promises())
        desk.do(("promise", "zero", 0))
        self.assertEqual({"zero": 0}, desk.promises())
        # A greater bound makes room for what the lesser one refused.
        desk.do(("promise", "zero", 1))
        desk.do(("watch", 1, 1, 0, 1))
        self.assertRaises(Unkept, desk.do, ("promise", "zero", 0))
        self.assertEqual({"zero": 1}, desk.promises())

    def test_a_place_that_is_made_an_end_or_gets_another_sign(self):
        desk = ring_desk(("mark", 2), ("place", 2, "c", ()))
        self.assertEqual(((1, 1, 0, 0, (2,)), ("c", ())), (desk.now.watcher, desk.now.program[2]))
        desk.do(("place", 2, "b", ()))
        self.assertEqual(("b", ()), desk.now.program[2])
        desk.do(("weights", "w", W))
        self.assertEqual(W, desk["w"])

    def test_bounds_of_a_promise(self):
        desk = ring_desk(("weights", "w", W))
        for bound in (0, 1, 10 ** 9):
            desk.do(("promise", "w", bound))
            self.assertEqual({"w": bound}, desk.promises())
        for bound in (-1, 10 ** 9 + 1, 10 ** 12, True, False, None, "1", (1,), [], {}):
            self.assertIs(NoFit, type(unchanged(self, desk.do, ("promise", "w", bound))), bound)

    def test_a_desk_is_not_gone_through(self):
        desk = ring_desk(("weights", "w", W))
        self.assertRaises(TypeError, list, desk)

    def test_weights_under_a_name(self):
        desk = ring_desk(("weights", "w", W))
        for thing in odd_things() + ["x", "ww", ("w",), ["w"], 0, -1, None]:
            self.assertIs(False, thing in desk)
            with self.assertRaises(NoName):
                desk[thing]
        self.assertIs(True, "w" in desk)


class Refused(unittest.TestCase):
    def refuses(self, desk, error, operation):
        before = shown(desk)
        self.assertIs(error, type(unchanged(self, desk.do, operation)), operation)
        self.assertEqual(before, shown(desk))

    def test_what_is_no_operation(self):
        desk = ring_desk(*KEPT)
        right = [("place", 0, "a", (1,)), ("watch", 1, 1, 0, 0), ("mark", 0), ("unmark", 0), ("weights", "w", W), ("drop", "zero"),
                 ("promise", "zero", 0), ("release", "zero")]
        near = [("undo",), ("redo",), ("",), ("Mark", 0), ("mark ", 0), ("marks", 0), (0, 0), (None, 0), (("mark",), 0), ("mark", 0, 0, 0, 0),
                ([], 0), ({}, 0), (["mark"], 0), (([],), 0), (("mark",), 0)]
        for operation in right:
            near += [operation[:-1], (*operation, 0), list(operation), [operation], (operation,), operation[0], {operation[0]: operation[1:]}]
        for thing in near + odd_things():
            self.refuses(desk, Mismatch, thing)
            self.assertIs(Mismatch, type(unchanged(self, desk.all_done, [thing])))

    def test_places(self):
        desk = ring_desk(*KEPT)
        for at in (-1, 3, 10 ** 12, -10 ** 12, True, False, None, "0", (0,), [0], {}):
            self.refuses(desk, NoProgram, ("place", at, "a", (1,)))
            self.refuses(desk, NoProgram, ("place", at, None, None))
            self.refuses(desk, NoProgram, ("mark", at))
            self.refuses(desk, NoProgram, ("unmark", at))
        for sign in ("", "A", "1a", "abcdefghi", "a b", None, True, 0, ("a",), ["a"]):
            self.refuses(desk, NoProgram, ("place", 0, sign, (1,)))
        for nexts in ([1], (1, 1), (2, 1), (3,), (-1,), (True,), (None,), ("1",), 1, None, {1: 1}, "1", ((1,),)):
            self.refuses(desk, NoProgram, ("place", 0, "a", nexts))

    def test_marks(self):
        desk = ring_desk(("mark", 1), ("mark", 0))
        for at in (0, 1):
            self.refuses(desk, Mismatch, ("mark", at))
        self.refuses(desk, Mismatch, ("unmark", 2))
        desk.do(("unmark", 1))
        self.refuses(desk, Mismatch, ("unmark", 1))

    def test_watchers(self):
        desk = ring_desk(*KEPT)
        for numbers in ((0, None, 0, 0), (31, None, 0, 0), (2, 1, 0, 0), (1, 31, 0, 0), (1, 0, 0, 0), (1, None, 1, 0), (1, None, 0, 31),
                        (1, None, -1, 0), (True, None, 0, 0), (1, True, 0, 0), (1, None, False, 0), (1, None, 0, True), (None, None, 0, 0),
                        ("1", None, 0, 0), (1, "none", 0, 0), (1, None, None, 0), (1, None, 0, None), (1, (1,), 0, 0), (1, None, 0, [1])):
            self.refuses(desk, NoWatcher, ("watch", *numbers))

    def test_weights(self):
        desk = ring_desk(*KEPT)
        for name in odd_things() + ["W", "1w", "abcdefghi", ("w",), ["w"], 0]:
            if name != "a":
                self.refuses(desk, NoName, ("weights", name, W))
                self.refuses(desk, NoName, ("weights", name, None))
        for thing in no_weights(3):
            self.refuses(desk, NoWeights, ("weights", "w", thing))
            self.refuses(desk, NoWeights, ("weights", "zero", thing))

    def test_twelve_names_and_a_thirteenth(self):
        desk = ring_desk(*[("weights", name, W) for name in NAMES])
        self.assertEqual(12, len(desk))
        with self.assertRaises(TooMany) as caught:
            desk.do(("weights", "more", W))
        self.assertEqual(12, caught.exception.limit)
        self.refuses(desk, TooMany, ("weights", "more", W))
        self.refuses(desk, NoWeights, ("weights", "more", None))
        desk.do(("weights", "n3", (0, 1, 0)))
        desk.do(("drop", "n4"))
        desk.do(("weights", "more", W))
        self.refuses(desk, TooMany, ("weights", "n4", W))

    def test_names_without_weights(self):
        desk = ring_desk(*KEPT)
        for name in odd_things() + ["x", "zer", "ZERO", ("zero",), ["zero"]]:
            self.refuses(desk, NoName, ("drop", name))
            self.refuses(desk, NoName, ("promise", name, 0))
            self.refuses(desk, NoName, ("promise", name, None))
            self.refuses(desk, NoName, ("release", name))

    def test_promises_that_are_there_or_not(self):
        desk = ring_desk(*KEPT, ("weights", "w", W))
        self.refuses(desk, Mismatch, ("drop", "zero"))
        self.refuses(desk, Mismatch, ("release", "w"))
        desk.do(("drop", "w"))
        self.refuses(desk, NoName, ("release", "w"))
        desk.do(("release", "zero"))
        self.refuses(desk, Mismatch, ("release", "zero"))
        desk.do(("drop", "zero"))
        self.refuses(desk, NoName, ("drop", "zero"))


class Unkeeping(unittest.TestCase):
    def unkept(self, desk, operation):
        """What Unkept tells, behind a look that nothing changed."""
        before = shown(desk)
        with self.assertRaises(Unkept) as caught:
            desk.do(operation)
        self.assertEqual(before, shown(desk))
        return caught.exception.name, caught.exception.told

    def test_each_operation_that_can_break_a_promise(self):
        desk = ring_desk(*KEPT)
        for operation, source in (
                (("watch", 1, 1, 0, 1), Source(RING, made(wide=1, high=1))),
                (("place", 1, "a", (2,)), Source((("a", (1,)), ("a", (2,)), ("c", (0,))), made(wide=1)))):
            name, told = self.unkept(desk, operation)
            self.assertEqual("zero", name)
            self.assertIs(True, shows_breach(source, W, 0, told))
        desk = ring_desk(("watch", 1, 1, 0, 1), ("mark", 0), ("mark", 2), *KEPT)
        for at in (0, 2):
            name, told = self.unkept(desk, ("unmark", at))
            marks = tuple({0, 2} - {at})
            self.assertIs(True, shows_breach(Source(RING, made(wide=1, high=1, marks=marks)), W, 0, told))
        name, told = self.unkept(desk, ("weights", "zero", (0, 3, 0)))
        self.assertIs(True, shows_breach(desk.now, (0, 3, 0), 0, told))
        desk.do(("weights", "two", (0, 3, 0)))
        for bound in (0, 1, 2):
            name, told = self.unkept(desk, ("promise", "two", bound))
            self.assertEqual("two", name)
            self.assertIs(True, shows_breach(desk.now, (0, 3, 0), bound, told))
        desk.do(("promise", "two", 3))

    def test_a_mark_that_adds_moves(self):
        source = Source((("a", (1,)), ("b", (2,)), ("c", (3,)), ("d", (0,))), made(wide=1, low=2, high=2))
        desk = Desk.of(source, [("weights", "w", (1, 0, 0, 0)), ("promise", "w", 0)])
        name, told = self.unkept(desk, ("mark", 1))
        self.assertIs(True, shows_breach(Source(source.program, made(wide=1, low=2, high=2, marks=(1,))), (1, 0, 0, 0), 0, told))

    def test_the_first_name_of_two(self):
        for names in (("v", "w"), ("w", "v"), ("b1", "b"), ("zz", "z")):
            desk = ring_desk(*[("weights", name, W) for name in names], *[("promise", name, 0) for name in names])
            self.assertEqual(sorted(names)[0], self.unkept(desk, ("watch", 1, 1, 0, 1))[0])
        # A promise that is kept comes first by its name, and is not told.
        desk = ring_desk(("weights", "a", (1, 1, 1)), ("weights", "b", W), ("promise", "a", 0), ("promise", "b", 0))
        self.assertEqual("b", self.unkept(desk, ("watch", 1, 1, 0, 1))[0])

    def test_just_the_spread_and_one_less(self):
        desk = ring_desk(("weights", "w", (7, 0, 0)), ("watch", 1, 1, 0, 1))
        self.assertEqual("w", self.unkept(desk, ("promise", "w", 6))[0])
        desk.do(("promise", "w", 7))
        self.unkept(desk, ("weights", "w", (8, 0, 0)))
        desk.do(("weights", "w", (-7, 0, 0)))
        self.unkept(desk, ("weights", "w", (0, -8, 0)))

    def test_a_growth(self):
        source = Source((("a", (1, 2)), ("b", (0,)), ("b", (0,))), made(gap=2, wide=2))
        desk = Desk.of(source, [("weights", "w", (0, 1, 0))])
        name, told = self.unkept(desk, ("promise", "w", 10 ** 9))
        self.assertEqual(("w", 3), (name, len(told)))
        self.assertIs(True, shows_breach(source, (0, 1, 0), 10 ** 9, told))

    def test_behind_other_errors(self):
        desk = ring_desk(*KEPT)
        for error, operation in (
                (NoWatcher, ("watch", 2, 1, 0, 1)), (NoProgram, ("place", 1, "a", (3,))), (NoWeights, ("weights", "zero", (0, 3))),
                (NoFit, ("promise", "zero", -1))):
            self.assertRaises(error, desk.do, operation)

    def test_a_promise_that_is_released_binds_no_more(self):
        desk = ring_desk(*KEPT)
        self.unkept(desk, ("watch", 1, 1, 0, 1))
        desk.do(("release", "zero"))
        desk.do(("watch", 1, 1, 0, 1))
        self.unkept(desk, ("promise", "zero", 0))


class History(unittest.TestCase):
    STEPS = [("weights", "w", W), ("promise", "w", 5), ("mark", 1), ("watch", 1, 1, 0, 1), ("place", 0, "z", (1, 2)), ("unmark", 1),
             ("weights", "v", (1, 1, 1)), ("release", "w"), ("drop", "w")]

    def test_nothing_to_undo_or_to_do_again(self):
        desk = ring_desk()
        self.assertRaises(NoMark, desk.undo)
        self.assertRaises(NoMark, desk.redo)
        desk.do(("mark", 0))
        self.assertRaises(NoMark, desk.redo)
        self.assertIsNone(desk.undo())
        self.assertRaises(NoMark, desk.undo)
        self.assertIsNone(desk.redo())
        self.assertRaises(NoMark, desk.redo)

    def test_all_and_again(self):
        desk = ring_desk()
        steps = [shown(desk)]
        for operation in self.STEPS:
            desk.do(operation)
            steps.append(shown(desk))
        self.assertEqual(self.STEPS, desk.notes())
        for step in steps[-2::-1]:
            desk.undo()
            self.assertEqual(step, shown(desk))
        for step in steps[1:]:
            desk.redo()
            self.assertEqual(step, shown(desk))

    def test_an_operation_behind_an_undo(self):
        desk = ring_desk(*self.STEPS[:4])
        desk.undo()
        desk.undo()
        desk.do(("mark", 2))
        self.assertRaises(NoMark, desk.redo)
        self.assertEqual([*self.STEPS[:2], ("mark", 2)], desk.notes())
        desk.undo()
        desk.redo()
        self.assertEqual((2,), desk.now.watcher[4])

    def test_what_is_refused_behind_an_undo(self):
        desk = ring_desk(*KEPT, ("mark", 1), ("mark", 0))
        desk.undo()
        desk.undo()
        for operation in (("watch", 1, 1, 0, 1), ("mark", 3), ("drop", "zero"), None, ("unmark", 0), ("weights", "A", W)):
            self.assertRaises(ValueError, desk.do, operation)
            self.assertRaises(ValueError, desk.all_done, [("mark", 2), operation])
            self.assertRaises(ValueError, desk.all_done, operation)
        desk.redo()
        desk.redo()
        self.assertEqual((0, 1), desk.now.watcher[4])
        self.assertRaises(NoMark, desk.redo)

    def test_undo_of_a_list_one_by_one(self):
        desk = ring_desk()
        self.assertIsNone(desk.all_done(self.STEPS))
        for many in range(len(self.STEPS), 0, -1):
            self.assertEqual(self.STEPS[:many], desk.notes())
            desk.undo()
        self.assertEqual(shown(ring_desk()), shown(desk))

    def test_lists_that_are_refused(self):
        desk = ring_desk(*KEPT)
        before = shown(desk)
        for error, operations in (
                (Mismatch, [("mark", 0), ("mark", 0)]), (Unkept, [("mark", 1), ("weights", "v", W), ("watch", 1, 1, 0, 1)]),
                (NoProgram, [("release", "zero"), ("drop", "zero"), ("mark", 5), None]), (Mismatch, [("mark", 2), None, ("mark", 5)]),
                (NoName, [("release", "zero"), ("drop", "zero"), ("promise", "zero", 0)]), (NoWeights, [("weights", "v", (1,))])):
            self.assertRaises(error, desk.all_done, operations)
            self.assertEqual(before, shown(desk))
        self.assertRaises(Unkept, Desk.of, Source(RING, made(wide=1, high=1)), list(KEPT))
        self.assertRaises(Mismatch, Desk.of, Source(RING, made()), KEPT)

    def test_a_promise_has_to_be_kept_behind_each_operation_of_a_list(self):
        desk = ring_desk(*KEPT)
        self.assertRaises(Unkept, desk.all_done, [("watch", 1, 1, 0, 1), ("mark", 0), ("mark", 2)])
        desk.all_done([("mark", 0), ("mark", 2), ("watch", 1, 1, 0, 1)])
        self.assertEqual((1, 1, 0, 1, (0, 2)), desk.now.watcher)

    def test_what_is_no_list(self):
        desk = ring_desk(*KEPT)
        desk.undo()
        for thing in odd_things() + [(("mark", 0),), {("mark", 0): 0}, ("mark", 0), "mark"]:
            if not isinstance(thing, list):
                self.assertIs(Mismatch, type(unchanged(self, desk.all_done, thing)), thing)
                self.assertRaises(Mismatch, Desk.of, desk.now, thing)
        desk.redo()

    def test_an_empty_list(self):
        desk = ring_desk(*KEPT)
        desk.undo()
        self.assertIsNone(desk.all_done([]))
        # No operation was done, so that what was undone still can be done again.
        desk.redo()
        self.assertEqual(2, len(desk.notes()))
        self.assertEqual(shown(ring_desk()), shown(Desk.of(Source(RING, made(wide=1)), [])))


class Returned(unittest.TestCase):
    def test_what_is_returned_is_new(self):
        desk = ring_desk(*KEPT)
        before = shown(desk)
        for told in (desk.notes(), desk.names(), desk.promises(), desk.now.moves):
            told.clear()
        self.assertEqual(before, shown(desk))

    def test_what_is_passed_may_be_changed(self):
        operations = [("mark", 0), ("weights", "w", W)]
        desk = ring_desk()
        unchanged(self, desk.all_done, operations)
        operations.clear()
        self.assertEqual([("mark", 0), ("weights", "w", W)], desk.notes())
        operations = [("mark", 0)]
        other = Desk.of(desk.now, [("unmark", 0)])
        other.all_done(operations)
        operations.append(("mark", 1))
        self.assertEqual([("unmark", 0), ("mark", 0)], other.notes())

    def test_two_desks_of_a_source(self):
        source = Source(RING, made(wide=1))
        one, other = Desk(source), Desk(source)
        one.all_done([("mark", 0), ("weights", "w", W)])
        self.assertEqual(((), [], []), (other.now.watcher[4], other.names(), other.notes()))
        self.assertEqual((1, 1, 0, 0, ()), source.watcher)


class Live(unittest.TestCase):
    def test_a_desk_without_weights(self):
        watch = ring_desk().live()
        self.assertIsInstance(watch, Watch)
        self.assertEqual((ring_desk().now, [], [], [-1]), (watch.source, watch.names(), watch.signs, watch.places))

    def test_all_weights(self):
        desk = ring_desk(*[("weights", name, W) for name in NAMES])
        watch = desk.live()
        self.assertEqual(sorted(NAMES), watch.names())
        watch("a")
        self.assertEqual((1, 1), watch.between("n7"))

    def test_later_operations_do_not_change_it(self):
        desk = ring_desk(("weights", "w", W), ("mark", 0))
        watch, other = desk.live(), desk.live()
        desk.undo()
        desk.all_done([("watch", 1, 1, 0, 1), ("weights", "w", (0, 0, 9)), ("weights", "v", W)])
        late = desk.live()
        for _ in range(3):
            desk.undo()
        desk.do(("drop", "w"))
        self.assertEqual([["w"], ["w"], ["v", "w"]], [each.names() for each in (watch, other, late)])
        self.assertEqual([(0, ), (0, ), ()], [each.source.watcher[4] for each in (watch, other, late)])
        watch("b")
        late("b")
        self.assertEqual([(0, 0), (0, 0), (0, 1)], [watch.between("w"), late.between("w"), late.between("v")])
        self.assertEqual(0, len(other))

    def test_a_watch_does_not_change_the_desk(self):
        desk = ring_desk(*KEPT)
        before = shown(desk)
        watch = desk.live()
        watch.forget("zero")
        watch.keep("more", W)
        watch("a")
        self.assertEqual(before, shown(desk))


class Promise(unittest.TestCase):
    def test_what_is_promised_is_settled(self):
        desk = ring_desk(*KEPT)
        self.assertIs(True, settled(desk.now, desk["zero"], desk.promises()["zero"]))


if __name__ == "__main__":
    unittest.main()
