"""Texts of programs, watchers, told lists, weights and fittings: read, and written canonically."""

from skidblame.errors import NoProgram
from skidblame.programs import MOST_PLACES, MOST_STEPS, is_program, made
from skidblame.tokens import Reader

SETTINGS = ("gap", "wide", "low", "high", "marks")
MOST_PLACE = MOST_PLACES - 1
NOTHING = "-"


def _read_place(reader):
    sign = reader.take_name()
    return sign, reader.take_numbers(MOST_PLACE) if reader.takes(">") else ()


def parse_program(text):
    """Return the program of a text."""
    reader = Reader(text)
    places = [_read_place(reader)]
    while len(places) < MOST_PLACES and reader.takes(";"):
        places.append(_read_place(reader))
    reader.end()
    program = tuple(places)
    if not is_program(program):
        raise NoProgram("a place has a next that is none")
    return program


def _read_setting(reader, settings):
    """Read one more setting into the settings."""
    if not any([reader.comes(word) and word not in settings for word in SETTINGS]):
        reader.refuse()
    word = reader.take_name()
    if word == "marks":
        settings[word] = () if reader.takes("none") else reader.take_numbers(MOST_PLACE)
    elif word == "wide" and reader.takes("none"):
        settings[word] = None
    else:
        settings[word] = reader.take_number(0, MOST_STEPS)


def parse_watcher(text):
    """Return the watcher of a text; what it does not tell is as in made."""
    reader, settings = Reader(text), {}
    _read_setting(reader, settings)
    while len(settings) < len(SETTINGS) and reader.takes(","):
        _read_setting(reader, settings)
    reader.end()
    return made(**settings)


def parse_told(text):
    """Return the told list of a text."""
    reader, told = Reader(text), []
    if not reader.takes(NOTHING):
        told.append(reader.take_name())
        while reader.has_name():
            told.append(reader.take_name())
    reader.end()
    return told


def parse_weights(text):
    """Return the tuple of the integers of a text."""
    reader = Reader(text)
    weights = [reader.take_whole()]
    while reader.has_whole():
        weights.append(reader.take_whole())
    reader.end()
    return tuple(weights)


def _read_pair(reader):
    taken = reader.take_number(0, MOST_PLACE)
    return taken, reader.take_number(0, MOST_PLACE)


def parse_fitting(text):
    """Return the list of the pairs of a text."""
    reader, pairs = Reader(text), []
    if not reader.takes(NOTHING):
        pairs.append(_read_pair(reader))
        while reader.takes(","):
            pairs.append(_read_pair(reader))
    reader.end()
    return pairs


def _row(things):
    """Return the texts of things with one space between two."""
    return " ".join([str(thing) for thing in things])


def _format_place(place):
    sign, nexts = place
    return sign if len(nexts) == 0 else f"{sign} > {_row(nexts)}"


def format_program(program):
    """Return the canonical text of a program."""
    return "; ".join([_format_place(place) for place in program])


def format_watcher(watcher):
    """Return the canonical text of a watcher."""
    gap, wide, low, high, marks = watcher
    wide_text = "none" if wide is None else str(wide)
    marks_text = "none" if len(marks) == 0 else _row(marks)
    return f"gap {gap}, wide {wide_text}, low {low}, high {high}, marks {marks_text}"


def format_told(told):
    """Return the canonical text of a told list."""
    return NOTHING if len(told) == 0 else _row(told)


def format_weights(weights):
    """Return the canonical text of weights."""
    return _row(weights)


def format_fitting(fitting):
    """Return the canonical text of a fitting."""
    return NOTHING if len(fitting) == 0 else ", ".join([_row(pair) for pair in fitting])
