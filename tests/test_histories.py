"""Drawn histories: watches against least and greatest, desks against a plain desk, the console against both."""

import unittest

from skidblame.console import Console
from skidblame.desk import Desk
from skidblame.errors import BlameError, Mismatch, NoFit, NoMark, NoName, NoProgram, NoWatcher, NoWeights, TooMany, Unkept
from skidblame.fittings import fitting, how_many, reached
from skidblame.live import Watch, widths
from skidblame.mends import greatest_high, shows_breach
from skidblame.names import is_name
from skidblame.programs import is_program, is_watcher
from skidblame.rules import best_rules
from skidblame.sources import Source
from skidblame.spread import spread_of
from skidblame.texts import format_fitting, format_program, format_told, format_watcher, format_weights
from skidblame.weights import greatest, least, surely
from tests.drawn import drawn_sources, drawn_weights


def raised(function, *things):
    """What a call answers, and the class of the error that it raises."""
    try:
        return function(*things), None
    except BlameError as error:
        return None, type(error)


class PlainWatch:
    """The signs that count, those that can be told again, and the weights that are kept."""

    def __init__(self, source):
        self.source, self.told, self.again, self.kept = source, [], [], {}

    def tell(self, sign):
        if not is_name(sign) or not reached(self.source, [*self.told, sign])[-1]:
            return NoFit
        self.told, self.again = [*self.told, sign], []
        return None

    def back(self):
        if not self.told:
            return NoMark
        self.again = [*self.again, self.told[-1]]
        self.told = self.told[:-1]
        return None

    def forth(self):
        if not self.again:
            return NoMark
        self.told, self.again = [*self.told, self.again[-1]], self.again[:-1]
        return None

    def keep(self, name, weights):
        if not is_name(name):
            return NoName
        if len(weights) != len(self.source.program):
            return NoWeights
        if name not in self.kept and len(self.kept) == 12:
            return TooMany
        self.kept[name] = weights
        return None

    def forget(self, name):
        return NoName if self.kept.pop(name, None) is None else None


class Watches(unittest.TestCase):
    def step(self, draw, plain, watch):
        """Do one drawn thing with both; tell the error."""
        sort, name = draw.below(16), ("w", "v", "x", "W", "n1", "n2", "n3")[draw.below(7)]
        if sort < 7:
            sign = ("a", "b", "c1", "zz", "B")[draw.below(5 if draw.below(4) == 0 else 3)]
            return plain.tell(sign), raised(watch, sign)[1]
        if sort < 10:
            return plain.back(), raised(watch.undo)[1]
        if sort < 12:
            return plain.forth(), raised(watch.redo)[1]
        if sort < 15:
            weights = drawn_weights(draw, len(plain.source.program) + (draw.below(6) == 0))
            return plain.keep(name, weights), raised(watch.keep, name, weights)[1]
        return plain.forget(name), raised(watch.forget, name)[1]

    def agree(self, plain, watch):
        self.assertEqual((plain.told, len(plain.told), sorted(plain.kept)), (watch.signs, len(watch), watch.names()))
        self.assertEqual(reached(plain.source, plain.told)[-1], watch.places)
        found = {}
        for name in sorted(plain.kept):
            low, high = [told(plain.source, plain.told, plain.kept[name])[0] for told in (least, greatest)]
            self.assertEqual((low, high), watch.between(name))
            self.assertIs(True, name in watch)
            found[name] = high - low
        self.assertEqual(list(found.items()), list(widths(watch).items()))

    def test_drawn_histories(self):
        errors = {}
        for draw, program, _, source in drawn_sources(91, 60, 4, 3, 3):
            plain, watch = PlainWatch(source), Watch(source)
            for _ in range(30):
                expected, error = self.step(draw, plain, watch)
                self.assertEqual(expected, error)
                errors[error] = errors.get(error, 0) + 1
                self.agree(plain, watch)
        self.assertGreater(min([errors[error] for error in (None, NoFit, NoMark, NoName, NoWeights)]), 20)

    def test_undone_and_told_again_at_last(self):
        for draw, program, _, source in drawn_sources(92, 60, 4, 3, 3):
            plain, watch = PlainWatch(source), Watch(source)
            for _ in range(20):
                self.step(draw, plain, watch)
            while plain.told:
                self.assertEqual((None, None), (plain.back(), raised(watch.undo)[1]))
                self.agree(plain, watch)
            self.assertEqual(NoMark, raised(watch.undo)[1])
            while plain.again:
                self.assertEqual((None, None), (plain.forth(), raised(watch.redo)[1]))
                self.agree(plain, watch)


class PlainDesk:
    """A desk that does all operations that count from the beginning each time."""

    def __init__(self, source):
        self.source, self.done, self.undone = source, [], []

    def state(self, operations):
        """The program, the watcher, the weights and the bounds behind some operations, or the first error."""
        program, watcher, weights, bounds = self.source.program, self.source.watcher, {}, {}
        for operation in operations:
            error = self.error_of(program, watcher, weights, bounds, operation)
            if error is not None:
                return error
            program, watcher, weights, bounds = self.behind(program, watcher, dict(weights), dict(bounds), operation)
            source = Source(program, watcher)
            for name in sorted(bounds):
                spread = spread_of(source, weights[name])
                if spread is None or spread > bounds[name]:
                    return Unkept
        return program, watcher, weights, bounds

    def error_of(self, program, watcher, weights, bounds, operation):
        """The error of an operation that is told before the promises."""
        word, *things = operation
        if word in ("place", "mark", "unmark") and not 0 <= things[0] < len(program):
            return NoProgram
        if word == "place" and not is_program(self.behind(program, watcher, {}, {}, operation)[0]):
            return NoProgram
        if word == "watch" and not is_watcher((*things, watcher[4])):
            return NoWatcher
        if word in ("mark", "unmark"):
            return Mismatch if (things[0] in watcher[4]) is (word == "mark") else None
        if word == "weights":
            if not is_name(things[0]):
                return NoName
            if len(things[1]) != len(program):
                return NoWeights
            return TooMany if things[0] not in weights and len(weights) == 12 else None
        if word in ("drop", "promise", "release"):
            if things[0] not in weights:
                return NoName
            if word == "promise":
                return None if 0 <= things[1] <= 10 ** 9 else NoFit
            return Mismatch if (things[0] in bounds) is (word == "drop") else None
        return None

    def behind(self, program, watcher, weights, bounds, operation):
        """What there is behind an operation, whether it is right or not."""
        word, *things = operation
        if word == "place":
            program = (*program[:things[0]], (things[1], things[2]), *program[things[0] + 1:])
        if word == "watch":
            watcher = (*things, watcher[4])
        if word == "mark":
            watcher = (*watcher[:4], tuple(sorted({*watcher[4], things[0]})))
        if word == "unmark":
            watcher = (*watcher[:4], tuple(sorted({*watcher[4]} - {things[0]})))
        if word == "weights":
            weights[things[0]] = things[1]
        if word == "drop":
            weights.pop(things[0], None)
        if word == "promise":
            bounds[things[0]] = things[1]
        if word == "release":
            bounds.pop(things[0], None)
        return program, watcher, weights, bounds

    def do(self, operations):
        """Do some operations, or none of them and tell the error."""
        state = self.state([*self.done, *operations])
        if not isinstance(state, tuple):
            return state
        if operations:
            self.done, self.undone = [*self.done, *operations], []
        return None

    def undo(self):
        if not self.done:
            return NoMark
        self.undone = [*self.undone, self.done[-1]]
        self.done = self.done[:-1]
        return None

    def redo(self):
        if not self.undone:
            return NoMark
        self.done, self.undone = [*self.done, self.undone[-1]], self.undone[:-1]
        return None


def drawn_operation(draw, many):
    """An operation for a program of so many places, now and then a wrong one."""
    word = ("place", "watch", "mark", "mark", "unmark", "weights", "weights", "drop", "promise", "promise", "promise", "release")[draw.below(12)]
    at = draw.below(many) if draw.below(8) else many
    name = ("w", "v", "x1", "W")[draw.below(3 if draw.below(8) else 4)]
    if word == "place":
        return word, at, ("a", "b", "c1", "2b")[draw.below(3 if draw.below(8) else 4)], draw.some(range(many + (draw.below(8) == 0)), 2)
    if word == "watch":
        gap, low = 1 + draw.below(2) - (draw.below(16) == 0), draw.below(2)
        return word, gap, (None, gap, gap, gap + 1, 0)[draw.below(4 if draw.below(8) else 5)], low, low + draw.below(2) - (draw.below(16) == 0)
    if word in ("mark", "unmark"):
        return word, at
    if word == "weights":
        # Small ones, so that some promises about others in their place are kept.
        return word, name, tuple([draw.below(3) for _ in range(many + (draw.below(8) == 0))])
    if word == "promise":
        return word, name, (0, 1, 2, 5, 10 ** 6, 10 ** 9, -1, 10 ** 9 + 1)[draw.below(6 if draw.below(8) else 8)]
    return word, name


class Desks(unittest.TestCase):
    def agree(self, plain, desk):
        program, watcher, weights, bounds = plain.state(plain.done)
        self.assertEqual((program, watcher), (desk.now.program, desk.now.watcher))
        self.assertEqual(plain.done, desk.notes())
        self.assertEqual((sorted(weights), len(weights)), (desk.names(), len(desk)))
        self.assertEqual(weights, {name: desk[name] for name in desk.names()})
        self.assertEqual(sorted(bounds.items()), list(desk.promises().items()))
        for name in bounds:
            spread = spread_of(desk.now, desk[name])
            self.assertTrue(spread is not None and spread <= bounds[name])

    def step(self, draw, plain, desk):
        many, sort = len(plain.source.program), draw.below(12)
        if sort < 7:
            operation = drawn_operation(draw, many)
            expected = plain.do([operation])
            found = self.outcome(plain, desk, desk.do, operation)
        elif sort < 9:
            operations = [drawn_operation(draw, many) for _ in range(draw.below(4))]
            expected = plain.do(operations)
            found = self.outcome(plain, desk, desk.all_done, operations)
        elif sort < 11:
            expected, found = plain.undo(), raised(desk.undo)[1]
        else:
            expected, found = plain.redo(), raised(desk.redo)[1]
        self.assertEqual(expected, found)
        return found

    def outcome(self, plain, desk, function, thing):
        """The error that a call raises, behind a look at what Unkept tells."""
        try:
            self.assertIsNone(function(thing))
        except Unkept as error:
            self.unkept(plain, thing, error)
            return Unkept
        except BlameError as error:
            return type(error)
        return None

    def unkept(self, plain, thing, error):
        state = plain.state(plain.done)
        for operation in thing if isinstance(thing, list) else [thing]:
            state = plain.behind(state[0], state[1], dict(state[2]), dict(state[3]), operation)
            source = Source(state[0], state[1])
            broken = [name for name in sorted(state[3]) if not (spread_of(source, state[2][name]) or 0) <= state[3][name]
                      or spread_of(source, state[2][name]) is None]
            if broken:
                self.assertEqual(broken[0], error.name)
                self.assertIs(True, shows_breach(source, state[2][error.name], state[3][error.name], error.told))
                return
        self.fail("all promises are kept")

    def test_drawn_histories(self):
        errors = {}
        for draw, program, _, source in drawn_sources(93, 150, 4, 2, 1):
            plain, desk = PlainDesk(source), Desk(source)
            for _ in range(40):
                error = self.step(draw, plain, desk)
                errors[error] = errors.get(error, 0) + 1
                self.agree(plain, desk)
        told = (None, Mismatch, NoProgram, NoWatcher, NoName, NoWeights, NoFit, NoMark, Unkept)
        self.assertGreater(min([errors.get(error, 0) for error in told]), 15, errors)

    def test_live_watches_of_a_desk(self):
        for draw, program, _, source in drawn_sources(94, 25, 4, 2, 1):
            plain, desk, watches = PlainDesk(source), Desk(source), []
            for _ in range(25):
                self.step(draw, plain, desk)
                if draw.below(4) == 0:
                    _, _, weights, _ = plain.state(plain.done)
                    watches.append((desk.live(), desk.now, dict(weights), []))
                for watch, now, weights, told in watches:
                    sign = ("a", "b", "c1")[draw.below(3)]
                    if raised(watch, sign)[1] is None:
                        told.append(sign)
                    self.assertEqual((now, sorted(weights), told), (watch.source, watch.names(), watch.signs))
                    for name in weights:
                        self.assertEqual((least(now, told, weights[name])[0], greatest(now, told, weights[name])[0]), watch.between(name))

    def test_of_a_list(self):
        for draw, program, _, source in drawn_sources(95, 200, 3, 2, 1):
            operations = [drawn_operation(draw, len(program)) for _ in range(draw.below(8))]
            plain = PlainDesk(source)
            expected = plain.do(operations)
            desk, error = raised(Desk.of, source, operations)
            self.assertEqual(expected, error)
            if error is None:
                self.agree(plain, desk)


def row(things):
    return " ".join([str(thing) for thing in things])


def or_none(thing, form):
    return "none" if thing is None else form(thing)


class Consoles(unittest.TestCase):
    def line_of(self, operation):
        """The command line that does an operation, or None if there is none such."""
        word, *things = operation
        if word == "weights":
            return f"weights {things[0]} : {format_weights(things[1])}"
        if word == "place":
            return row([word, *things[:2], *things[2]])
        numbers = [thing for thing in things if isinstance(thing, int)]
        if min(numbers, default=0) < 0 or max(numbers, default=0) > 10 ** 6:
            return None
        return row([word, *["none" if thing is None else thing for thing in things]])

    def answers(self, console, line, function, *things):
        """Look whether a line answers or raises just what a call does."""
        expected, error = raised(function, *things)
        self.assertEqual((expected, error), raised(console.execute, line), line)

    def ask(self, draw, console, desk):
        """Ask everything that can be asked of a desk."""
        told = [("a", "b", "c1", "zz")[draw.below(4 if draw.below(6) == 0 else 3)] for _ in range(draw.below(4))]
        text, source, name, bound = format_told(told), desk.now, ("w", "v", "x1", "W")[draw.below(4)], draw.below(4)
        self.answers(console, "program", lambda: format_program(source.program))
        self.answers(console, "watcher", lambda: format_watcher(source.watcher))
        self.answers(console, "names", lambda: row(desk.names()) or "-")
        self.answers(console, "promises", lambda: ", ".join([row(item) for item in desk.promises().items()]) or "-")
        self.answers(console, "count", lambda: str(len(desk.notes())))
        self.answers(console, f"get {name}", lambda: format_weights(desk[name]))
        self.answers(console, f"fit : {text}", lambda: or_none(fitting(source, told), format_fitting))
        self.answers(console, f"many : {text}", lambda: str(how_many(source, told)))
        self.answers(console, f"reach : {text}", lambda: row(reached(source, told)[-1]) or "none")
        self.answers(console, f"sure : {text}", lambda: format_fitting(surely(source, told)))
        self.answers(console, f"between {name} : {text}", lambda: or_none(
            least(source, told, desk[name]), lambda low: row([low[0], greatest(source, told, desk[name])[0]])))
        self.answers(console, f"spread {name}", lambda: or_none(spread_of(source, desk[name]), str))
        self.answers(console, f"high {name} {bound}", lambda: or_none(greatest_high(source, desk[name], bound), str))
        self.answers(console, "best", lambda: (
            or_none(best_rules(source)[0], row) + " : " + ", ".join([row(rule) for rule in best_rules(source)[1]])))

    def ask_watch(self, draw, console, desk, watches):
        """Do something with a live watch, or begin one."""
        if draw.below(5) == 0:
            watches.append(desk.live())
            self.assertEqual(str(len(watches) - 1), console.execute("live"))
        number = draw.below(len(watches) + 1)
        sign, name = ("a", "b", "c1", "B")[draw.below(4)], ("w", "v", "x1")[draw.below(3)]
        if number == len(watches):
            for line in (f"tell {number} {sign}", f"back {number}", f"again {number}", f"at {number}", f"seen {number} {name}"):
                self.assertEqual((None, NoName), raised(console.execute, line))
            return
        watch = watches[number]
        self.answers(console, f"tell {number} {sign}", lambda: row(watch(sign)))
        if draw.below(3) == 0:
            self.answers(console, f"back {number}", lambda: watch.undo() or "ok")
        if draw.below(5) == 0:
            self.answers(console, f"again {number}", lambda: watch.redo() or "ok")
        self.answers(console, f"at {number}", lambda: row(watch.places))
        self.answers(console, f"seen {number} {name}", lambda: row(watch.between(name)))

    def test_drawn_histories(self):
        console, lines = Console(), 0
        for draw, program, watcher, source in drawn_sources(96, 40, 4, 2, 1):
            self.assertEqual("ok", console.execute(f"open : {format_program(program)} : {format_watcher(watcher)}"))
            desk, watches = Desk(source), []
            for _ in range(12):
                for word, function in (("undo", desk.undo), ("redo", desk.redo)):
                    if draw.below(6) == 0:
                        self.answers(console, word, lambda: function() or "ok")
                operation = drawn_operation(draw, len(program))
                line = self.line_of(operation)
                if line is not None:
                    self.answers(console, line, lambda: desk.do(operation) or "ok")
                    lines += 1
                self.ask(draw, console, desk)
                self.ask_watch(draw, console, desk, watches)
        self.assertGreater(lines, 300)


if __name__ == "__main__":
    unittest.main()
