"""Integers and names, and what is plainly made of them."""

LETTERS = "abcdefghijklmnopqrstuvwxyz"
DIGITS = "0123456789"
LONGEST_NAME = 8


def is_integer(thing):
    """Tell whether any object is an integer: an int that is not a bool."""
    return isinstance(thing, int) and not isinstance(thing, bool)


def is_number(thing, least, most):
    """Tell whether any object is an integer from least to most."""
    return is_integer(thing) and least <= thing <= most


def is_ascending(thing, most):
    """Tell whether any object is an ascending tuple of different integers from 0 to most."""
    if not isinstance(thing, tuple):
        return False
    if not all([is_number(number, 0, most) for number in thing]):
        return False
    return all([number < after for number, after in zip(thing, thing[1:])])


def is_name(thing):
    """Tell whether any object is a name: one to eight letters and digits, a letter first."""
    if not isinstance(thing, str) or not 1 <= len(thing) <= LONGEST_NAME:
        return False
    return thing[0] in LETTERS and all([sign in LETTERS + DIGITS for sign in thing])
