"""Command lines: which words and how many texts each command has."""

from skidblame.errors import InvalidCommand
from skidblame.names import DIGITS

MOST_NUMBER = 10 ** 6
MOST_DIGITS = 7
COLON = " : "

# What stands behind each command: N a number, W a number or none, S any word, N.. any number of
# numbers; and how many texts stand behind these.
FORMS = {
    "open": ("", 2), "place": ("N S N..", 0), "watch": ("N W N N", 0), "mark": ("N", 0), "unmark": ("N", 0),
    "weights": ("S", 1), "drop": ("S", 0), "promise": ("S N", 0), "release": ("S", 0), "undo": ("", 0), "redo": ("", 0),
    "program": ("", 0), "watcher": ("", 0), "names": ("", 0), "get": ("S", 0), "promises": ("", 0), "count": ("", 0),
    "fit": ("", 1), "many": ("", 1), "reach": ("", 1), "sure": ("", 1), "between": ("S", 1),
    "spread": ("S", 0), "high": ("S N", 0), "best": ("", 0),
    "live": ("", 0), "tell": ("N S", 0), "back": ("N", 0), "again": ("N", 0), "at": ("N", 0), "seen": ("N S", 0),
}


def _is_number(word):
    """Tell whether a word is an integer from 0 to 10^6 without leading zeros."""
    if not 1 <= len(word) <= MOST_DIGITS or not all([digit in DIGITS for digit in word]):
        return False
    return word == "0" or word[0] != "0" and int(word) <= MOST_NUMBER


def _value(kind, word):
    """Return what a word of some kind stands for."""
    if kind == "S":
        return word
    if kind == "W" and word == "none":
        return None
    if not _is_number(word):
        raise InvalidCommand("a word is no number")
    return int(word)


def _values(form, words):
    """Return what the words behind a command stand for."""
    kinds = form.split()
    if form.endswith("N.."):
        kinds = kinds[:-1] + ["N"] * (len(words) - len(kinds) + 1)
    if len(words) != len(kinds):
        raise InvalidCommand("there are too few or too many words")
    return [_value(kind, word) for kind, word in zip(kinds, words)]


def _cut(line, many):
    """Return the parts of a line between its first colons, at most so many of them."""
    parts, rest = [], line
    while len(parts) < many and COLON in rest:
        part, _, rest = rest.partition(COLON)
        parts.append(part)
    return [*parts, rest]


def read_line(line):
    """Return the command of a line, and the list of what its words stand for and of its texts."""
    command = line.split(" ")[0]
    if command not in FORMS:
        raise InvalidCommand("there is no such command")
    form, many = FORMS[command]
    parts = _cut(line, max(many, 1))
    words, texts = parts[0].split(" "), parts[1:]
    if "" in words or len(texts) != many:
        raise InvalidCommand("a blank is too many, or there are too few or too many texts")
    return command, _values(form, words[1:]) + texts
