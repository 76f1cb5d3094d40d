"""A console: command lines about a desk and its live watches, each with an answer."""

from skidblame.desk import Desk
from skidblame.errors import NoName, NoProgram
from skidblame.fittings import fitting, how_many, reached
from skidblame.lines import read_line
from skidblame.mends import greatest_high
from skidblame.rules import best_rules
from skidblame.sources import Source
from skidblame.spread import spread_of
from skidblame.texts import format_fitting, format_program, format_watcher, format_weights
from skidblame.texts import parse_program, parse_told, parse_watcher, parse_weights
from skidblame.weights import greatest, least, surely

DONE = "ok"
NONE = "none"
NOTHING = "-"


def _row(things):
    """Return the texts of things with one space between two."""
    return " ".join([str(thing) for thing in things])


def _place_row(places):
    """Return the text of the places that a sample can be told at."""
    return NONE if len(places) == 0 else _row(places)


def _number_text(number):
    """Return the digits of an integer from 0 on, also of one with more digits than Python writes at once."""
    backwards = []
    while number >= 10 ** 64:
        number, rest = divmod(number, 10 ** 64)
        backwards.append(str(rest).zfill(64))
    backwards.append(str(number))
    return "".join(backwards[::-1])


def _begin(console, program_text, watcher_text):
    program, watcher = parse_program(program_text), parse_watcher(watcher_text)
    console.desk = Desk(Source(program, watcher))
    console.watches = []
    return DONE


def _place(console, at, sign, *nexts):
    console.desk.do(("place", at, sign, nexts))
    return DONE


def _watch(console, gap, wide, low, high):
    console.desk.do(("watch", gap, wide, low, high))
    return DONE


def _mark(console, at):
    console.desk.do(("mark", at))
    return DONE


def _unmark(console, at):
    console.desk.do(("unmark", at))
    return DONE


def _weights(console, name, text):
    console.desk.do(("weights", name, parse_weights(text)))
    return DONE


def _drop(console, name):
    console.desk.do(("drop", name))
    return DONE


def _promise(console, name, bound):
    console.desk.do(("promise", name, bound))
    return DONE


def _release(console, name):
    console.desk.do(("release", name))
    return DONE


def _undo(console):
    console.desk.undo()
    return DONE


def _redo(console):
    console.desk.redo()
    return DONE


def _program(console):
    return format_program(console.desk.now.program)


def _watcher(console):
    return format_watcher(console.desk.now.watcher)


def _names(console):
    names = console.desk.names()
    return NOTHING if len(names) == 0 else _row(names)


def _get(console, name):
    return format_weights(console.desk[name])


def _promises(console):
    bounds = console.desk.promises()
    return NOTHING if len(bounds) == 0 else ", ".join([f"{name} {bounds[name]}" for name in bounds])


def _count(console):
    return str(len(console.desk.notes()))


def _fit(console, text):
    found = fitting(console.desk.now, parse_told(text))
    return NONE if found is None else format_fitting(found)


def _many(console, text):
    return _number_text(how_many(console.desk.now, parse_told(text)))


def _reach(console, text):
    return _place_row(reached(console.desk.now, parse_told(text))[-1])


def _sure(console, text):
    return format_fitting(surely(console.desk.now, parse_told(text)))


def _between(console, name, text):
    told = parse_told(text)
    source, weights = console.desk.now, console.desk[name]
    low = least(source, told, weights)
    return NONE if low is None else _row([low[0], greatest(source, told, weights)[0]])


def _spread(console, name):
    found = spread_of(console.desk.now, console.desk[name])
    return NONE if found is None else str(found)


def _high(console, name, bound):
    found = greatest_high(console.desk.now, console.desk[name], bound)
    return NONE if found is None else str(found)


def _best(console):
    share, rules = best_rules(console.desk.now)
    rows = ", ".join([_row(rule) for rule in rules])
    return f"{NONE if share is None else _row(share)} : {rows}"


def _live(console):
    console.watches.append(console.desk.live())
    return str(len(console.watches) - 1)


def _watch_at(console, number):
    """Return the live watch with a number."""
    if number >= len(console.watches):
        raise NoName("there is no live watch with this number")
    return console.watches[number]


def _tell(console, number, sign):
    watch = _watch_at(console, number)
    return _place_row(watch(sign))


def _back(console, number):
    _watch_at(console, number).undo()
    return DONE


def _again(console, number):
    _watch_at(console, number).redo()
    return DONE


def _at(console, number):
    return _place_row(_watch_at(console, number).places)


def _seen(console, number, name):
    return _row(_watch_at(console, number).between(name))


ACTIONS = {
    "open": _begin, "place": _place, "watch": _watch, "mark": _mark, "unmark": _unmark, "weights": _weights,
    "drop": _drop, "promise": _promise, "release": _release, "undo": _undo, "redo": _redo,
    "program": _program, "watcher": _watcher, "names": _names, "get": _get, "promises": _promises, "count": _count,
    "fit": _fit, "many": _many, "reach": _reach, "sure": _sure, "between": _between,
    "spread": _spread, "high": _high, "best": _best,
    "live": _live, "tell": _tell, "back": _back, "again": _again, "at": _at, "seen": _seen,
}


class Console:
    """A console, without a desk at first."""

    def __init__(self):
        self.desk = None
        self.watches = []

    def execute(self, line):
        """Do a command line and return its answer."""
        command, things = read_line(line)
        if self.desk is None and command != "open":
            raise NoProgram("there is no desk")
        action = ACTIONS[command]
        return action(self, *things)
