"""Desks: a source and weights that are changed by operations, none of which breaks a promise."""

from skidblame.errors import Mismatch, NoFit, NoMark, NoName, NoProgram, TooMany, Unkept
from skidblame.live import MOST_NAMES, Watch
from skidblame.mends import breach
from skidblame.names import is_name, is_number
from skidblame.sources import Source
from skidblame.weights import check_weights

MOST_BOUND = 10 ** 9


class Standing:
    """What a desk has at one time: its source, weights and promised bounds by their names. It is never changed."""

    def __init__(self, source, weights, bounds):
        self.source = source
        self.weights = weights
        self.bounds = bounds


def _check_place(source, at):
    """Raise NoProgram if any object is no place of the source's program."""
    if not is_number(at, 0, len(source.program) - 1):
        raise NoProgram("this is no place of the program")


def _check_named(standing, name):
    """Raise NoName if there are no weights under any object."""
    if not is_name(name) or name not in standing.weights:
        raise NoName("there are no weights under this")


def _check_kept(standing, names):
    """Raise Unkept for the first name whose promise is not kept."""
    for name in sorted(names):
        found = breach(standing.source, standing.weights[name], standing.bounds[name])
        if found is not None:
            raise Unkept(name, found)


def _with_source(standing, program, watcher):
    """Return the standing with another source; raise NoProgram, NoWatcher or Unkept if it cannot be."""
    found = Standing(Source(program, watcher), standing.weights, standing.bounds)
    _check_kept(found, list(found.bounds))
    return found


def _without(table, name):
    return {key: table[key] for key in table if key != name}


def _place(standing, at, sign, nexts):
    _check_place(standing.source, at)
    program = standing.source.program
    return _with_source(standing, (*program[:at], (sign, nexts), *program[at + 1:]), standing.source.watcher)


def _watch(standing, gap, wide, low, high):
    watcher = (gap, wide, low, high, standing.source.watcher[4])
    return _with_source(standing, standing.source.program, watcher)


def _with_marks(standing, marks):
    watcher = (*standing.source.watcher[:4], tuple(sorted(marks)))
    return _with_source(standing, standing.source.program, watcher)


def _mark(standing, at):
    _check_place(standing.source, at)
    marks = standing.source.watcher[4]
    if at in marks:
        raise Mismatch("this place is marked")
    return _with_marks(standing, [*marks, at])


def _unmark(standing, at):
    _check_place(standing.source, at)
    marks = standing.source.watcher[4]
    if at not in marks:
        raise Mismatch("this place is not marked")
    return _with_marks(standing, [mark for mark in marks if mark != at])


def _weights(standing, name, weights):
    if not is_name(name):
        raise NoName("this is no name")
    check_weights(standing.source, weights)
    if name not in standing.weights and len(standing.weights) == MOST_NAMES:
        raise TooMany(MOST_NAMES)
    found = Standing(standing.source, {**standing.weights, name: weights}, standing.bounds)
    _check_kept(found, [name] if name in found.bounds else [])
    return found


def _drop(standing, name):
    _check_named(standing, name)
    if name in standing.bounds:
        raise Mismatch("a promise is about these weights")
    return Standing(standing.source, _without(standing.weights, name), standing.bounds)


def _promise(standing, name, bound):
    _check_named(standing, name)
    if not is_number(bound, 0, MOST_BOUND):
        raise NoFit("the bound is no integer from 0 to 10^9")
    found = Standing(standing.source, standing.weights, {**standing.bounds, name: bound})
    _check_kept(found, [name])
    return found


def _release(standing, name):
    _check_named(standing, name)
    if name not in standing.bounds:
        raise Mismatch("there is no promise about these weights")
    return Standing(standing.source, standing.weights, _without(standing.bounds, name))


ACTIONS = {
    "place": _place, "watch": _watch, "mark": _mark, "unmark": _unmark, "weights": _weights, "drop": _drop,
    "promise": _promise, "release": _release,
}
# How many things stand behind each word.
LENGTHS = {"place": 3, "watch": 4, "mark": 1, "unmark": 1, "weights": 2, "drop": 1, "promise": 2, "release": 1}


def _is_operation(thing):
    """Tell whether any object has the form of an operation."""
    if not isinstance(thing, tuple) or len(thing) == 0 or not isinstance(thing[0], str):
        return False
    return thing[0] in LENGTHS and len(thing) == LENGTHS[thing[0]] + 1


def _done(standing, operation):
    """Return the standing behind an operation, any object."""
    if not _is_operation(operation):
        raise Mismatch("this is no operation")
    action, things = ACTIONS[operation[0]], operation[1:]
    return action(standing, *things)


class Desk:
    """A source with weights under names, changed by operations, with promises about the weights."""

    def __init__(self, source):
        # The standing behind each number of operations, and those that can be done again.
        self._standings = [Standing(source, {}, {})]
        self._operations = []
        self._undone = []

    @classmethod
    def of(cls, source, operations):
        """Return a desk in which a list of operations was done."""
        desk = cls(source)
        desk.all_done(operations)
        return desk

    @property
    def now(self):
        """The source as it is now."""
        return self._standings[-1].source

    def __getitem__(self, name):
        standing = self._standings[-1]
        _check_named(standing, name)
        return standing.weights[name]

    # Without this a loop over a desk would ask for the weights under 0.
    def __iter__(self):
        raise TypeError("a desk is not gone through")

    def __contains__(self, name):
        return is_name(name) and name in self._standings[-1].weights

    def __len__(self):
        return len(self._standings[-1].weights)

    def do(self, operation):
        """Do an operation, any object; if it is refused, nothing changes."""
        self.all_done([operation])

    def all_done(self, operations):
        """Do the operations of a list, any object, one after the other, or none of them."""
        if not isinstance(operations, list):
            raise Mismatch("this is no list of operations")
        standings = [self._standings[-1]]
        for operation in operations:
            standings.append(_done(standings[-1], operation))
        if len(operations) > 0:
            self._standings.extend(standings[1:])
            self._operations.extend(operations)
            self._undone = []

    def undo(self):
        """Undo the last operation."""
        if len(self._operations) == 0:
            raise NoMark("there is nothing to undo")
        self._undone.append((self._operations.pop(), self._standings.pop()))

    def redo(self):
        """Do again the operation that was undone last."""
        if len(self._undone) == 0:
            raise NoMark("there is nothing to do again")
        operation, standing = self._undone.pop()
        self._operations.append(operation)
        self._standings.append(standing)

    def notes(self):
        """Return the list of the operations that are done, in order."""
        return list(self._operations)

    def names(self):
        """Return the ascending list of the names."""
        return sorted(self._standings[-1].weights)

    def promises(self):
        """Return the dict from the names of the promises, ascending, to their bounds."""
        bounds = self._standings[-1].bounds
        return {name: bounds[name] for name in sorted(bounds)}

    def live(self):
        """Return a new live watch of the source that keeps all weights."""
        watch = Watch(self.now)
        for name in self.names():
            watch.keep(name, self[name])
        return watch
