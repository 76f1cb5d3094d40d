"""Marks that settle how far weights can be apart, and the cheapest ones of those that are offered."""

from skidblame.errors import Mismatch, NoChange, TooMany
from skidblame.fittings import is_fitting, fits_any, told_by
from skidblame.names import is_ascending, is_integer, is_number
from skidblame.programs import MOST_STEPS
from skidblame.sources import Source
from skidblame.spread import growth, is_bounds, shows_growth, spread_bounds, spread_of, widest
from skidblame.weights import check_weights, weight_of

MOST_OFFERS = 6


def _is_offer(source, thing):
    """Tell whether any object is an offer."""
    if not isinstance(thing, tuple) or len(thing) != 2:
        return False
    place, price = thing
    if not is_number(place, 0, len(source.program) - 1) or place in source.watcher[4]:
        return False
    return is_integer(price) and price >= 0


def _check_offers(source, offers):
    """Raise NoChange if any object is no list of offers, and TooMany if there are too many of them."""
    if not isinstance(offers, list) or not all([_is_offer(source, offer) for offer in offers]):
        raise NoChange("this is no list of offers")
    if len({place for place, price in offers}) != len(offers):
        raise NoChange("a place is offered twice")
    if len(offers) > MOST_OFFERS:
        raise TooMany(MOST_OFFERS)


def _price_of(offers, choice):
    return sum([offers[index][1] for index in choice])


def _all_choices(offers):
    """Return the list of all choices, each behind its price, ascending."""
    found = [()]
    for index in range(len(offers)):
        found = found + [(*choice, index) for choice in found]
    return sorted([(_price_of(offers, choice), choice) for choice in found])


def choices(offers):
    """Generate all choices of right offers, by their price, those of a price ascending."""
    for _, choice in _all_choices(offers):
        yield choice


def _is_choice(offers, thing):
    """Tell whether any object is a choice."""
    return is_ascending(thing, len(offers) - 1)


def marked(source, offers, choice):
    """Return the source with the marks of a choice."""
    _check_offers(source, offers)
    if not _is_choice(offers, choice):
        raise Mismatch("this is no choice of these offers")
    marks = list(source.watcher[4]) + [offers[index][0] for index in choice]
    return Source(source.program, (*source.watcher[:4], tuple(sorted(marks))))


def settled(source, weights, bound):
    """Tell whether weights are settled within a bound."""
    found = spread_of(source, weights)
    return found is not None and found <= bound


def breach(source, weights, bound):
    """Return a breach, or None if the weights are settled within the bound."""
    found = spread_of(source, weights)
    if found is None:
        return growth(source, weights)
    return widest(source, weights) if found > bound else None


def shows_breach(source, weights, bound, thing):
    """Tell whether any object is a breach."""
    check_weights(source, weights)
    if not isinstance(thing, tuple) or len(thing) != 2:
        return shows_growth(source, weights, thing)
    first, second = thing
    if not fits_any(source, first) or not is_fitting(source, told_by(source, first), second):
        return False
    return weight_of(weights, first) - weight_of(weights, second) > bound


def cheapest(source, weights, bound, offers):
    """Return the cheapest choice, its price, bounds that show it, and a breach for each choice ahead of it."""
    check_weights(source, weights)
    _check_offers(source, offers)
    reasons = []
    for choice in choices(offers):
        mended = marked(source, offers, choice)
        found = breach(mended, weights, bound)
        if found is None:
            return choice, _price_of(offers, choice), spread_bounds(mended, weights), reasons
        reasons.append((choice, found))
    return None, None, None, reasons


def _is_reason(source, weights, bound, offers, choice, thing):
    """Tell whether any object is a choice with a breach of the source with its marks."""
    if not isinstance(thing, tuple) or len(thing) != 2:
        return False
    if not _is_choice(offers, thing[0]) or thing[0] != choice:
        return False
    return shows_breach(marked(source, offers, choice), weights, bound, thing[1])


def shows_cheapest(source, weights, bound, offers, thing):
    """Tell whether any object is the cheapest choice, its price, bounds, and breaches for those ahead."""
    check_weights(source, weights)
    _check_offers(source, offers)
    if not isinstance(thing, tuple) or len(thing) != 4 or not isinstance(thing[3], list):
        return False
    choice, price, bounds, reasons = thing
    order = list(choices(offers))
    if choice is None:
        ahead = order
        if price is not None or bounds is not None:
            return False
    else:
        if not _is_choice(offers, choice) or not is_integer(price) or price != _price_of(offers, choice):
            return False
        ahead = order[:order.index(choice)]
        mended = marked(source, offers, choice)
        if not is_bounds(mended, weights, bounds) or max(bounds.values()) > bound:
            return False
    if len(reasons) != len(ahead):
        return False
    return all([
        _is_reason(source, weights, bound, offers, one, reason) for one, reason in zip(ahead, reasons)
    ])


def greatest_high(source, weights, bound):
    """Return the greatest high with which the weights are settled within a bound, or None."""
    check_weights(source, weights)
    watcher = source.watcher
    # With a greater high no move is lost, so that nothing is settled above a high at which it is not.
    right, wrong = watcher[2] - 1, MOST_STEPS + 1
    while wrong - right > 1:
        high = (right + wrong) // 2
        if settled(Source(source.program, (*watcher[:3], high, watcher[4])), weights, bound):
            right = high
        else:
            wrong = high
    return right if right >= watcher[2] else None
