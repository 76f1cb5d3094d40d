"""Fractions: tuples (numerator, denominator) in lowest terms, the denominator above 0."""

from math import gcd
from skidblame.names import is_integer


def lowest(top, bottom):
    """Return the fraction of two integers, the second one above 0."""
    shared = gcd(top, bottom)
    return top // shared, bottom // shared


def is_fraction(thing):
    """Tell whether any object is a fraction."""
    if not isinstance(thing, tuple) or len(thing) != 2:
        return False
    top, bottom = thing
    if not is_integer(top) or not is_integer(bottom) or bottom < 1:
        return False
    return gcd(top, bottom) == 1


def is_less(one, other):
    """Tell whether a fraction is less than another one."""
    return one[0] * other[1] < other[0] * one[1]
