"""Rounds, shares, rules and covers as points 8, 10 and 11 tell them, gone through one by one."""

from fractions import Fraction
from itertools import product

from tests.plainfits import all_fittings, lists_of


def signs_in(program):
    return sorted({sign for sign, _ in program})


def gain_sum(program, gains, pairs):
    """The sum of the gains of some pairs."""
    signs = signs_in(program)
    return sum([gains[p][signs.index(program[r][0])] for p, r in pairs])


def fittings_up_to(program, moves, most):
    """Each fitting of each told list of at most so many signs."""
    for told in lists_of(signs_in(program), most):
        yield from all_fittings(program, moves, told)


def turns_of(fitting):
    """Each turn that makes a fitting a round."""
    return [turn for turn in range(1, len(fitting)) if fitting[turn - 1][1] == fitting[-1][1]]


def plain_mean(program, gains, fitting, turn):
    return Fraction(gain_sum(program, gains, fitting[turn:]), len(fitting) - turn)


def fraction_of(share):
    """A fraction of the package as one of Python, or None."""
    return None if share is None else Fraction(*share)


def pair_of(fraction):
    """A fraction of Python as one of the package, or None."""
    return None if fraction is None else (fraction.numerator, fraction.denominator)


def plain_share(program, fittings, gains):
    """The greatest mean of a round with one of the fittings, or None."""
    means = [plain_mean(program, gains, fitting, turn) for fitting in fittings for turn in turns_of(fitting)]
    return max(means) if means else None


def plain_bounds(program, fittings, gains, fraction):
    """By where the fittings end: the greatest of b times the sum of the gains less a times their number."""
    found = {}
    for fitting in fittings:
        end = fitting[-1][1] if fitting else -1
        value = fraction.denominator * gain_sum(program, gains, fitting) - fraction.numerator * len(fitting)
        found[end] = max(found.get(end, value), value)
    return dict(sorted(found.items()))


def are_bounds(program, moves, gains, fraction, bounds):
    """Whether a dict from places to integers is bounds of a fraction, word by word."""
    if bounds.get(-1, -1) < 0:
        return False
    return all(
        r in bounds and bounds[r] >= bounds[q] + fraction.denominator * gain_sum(program, gains, [(p, r)]) - fraction.numerator
        for q, p, r in moves if q in bounds)


def wrong_of(program, rule):
    """The gains that are 1 for what a rule blames wrongly."""
    return tuple([tuple([int(rule[k] != p) for k in range(len(rule))]) for p in range(len(program))])


def every_rule(program):
    return list(product(range(len(program)), repeat=len(signs_in(program))))


def ends_behind(program, moves, places, sign):
    """The places behind a sign from some places, by the words."""
    return tuple(sorted({r for q, p, r in moves if q in places and program[r][0] == sign}))


def has_fitting(program, moves, told):
    places = (-1,)
    for sign in told:
        places = ends_behind(program, moves, places, sign)
    return len(places) > 0


def is_ever_apart(one, other):
    """Whether some told list has a fitting for the one (program, moves) and none for the other: by all pairs of sets."""
    seen, todo = set(), [((-1,), (-1,))]
    while todo:
        pair = todo.pop()
        if not pair[0] or pair in seen:
            continue
        if not pair[1]:
            return True
        seen.add(pair)
        todo.extend([
            (ends_behind(*one, pair[0], sign), ends_behind(*other, pair[1], sign)) for sign in signs_in(one[0])])
    return False


def is_cover(one, other, pairs):
    """Whether a list of pairs (q, S) is a cover of the one (program, moves) by the other, word by word."""
    if (-1, (-1,)) not in pairs or len(set(pairs)) < len(pairs):
        return False
    for q, places in pairs:
        for s, _, r in one[1]:
            goals = ends_behind(*other, places, one[0][r][0])
            if s == q and not any(place == r and set(held) <= set(goals) for place, held in pairs):
                return False
    return True
