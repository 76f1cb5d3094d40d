"""Rules of blame, how wrong they are at worst, and the best ones."""

from skidblame.errors import NoRule, TooMany
from skidblame.names import is_number
from skidblame.programs import signs_of
from skidblame.ratios import is_fraction, is_less
from skidblame.shares import NOTHING, is_round, mean_of, share_bounds, share_of, shows_bounds, worst_round

MOST_RULES = 300


def _how_many_rules(source):
    many = 1
    for _ in signs_of(source.program):
        many = many * len(source.program)
    return many


def _rule_at(source, index):
    """Return the rule with this index among all rules."""
    backwards = []
    for _ in signs_of(source.program):
        index, place = divmod(index, len(source.program))
        backwards.append(place)
    return tuple(backwards[::-1])


def rules_of(source):
    """Generate all rules, ascending."""
    for index in range(_how_many_rules(source)):
        yield _rule_at(source, index)


def _is_rule(source, thing):
    """Tell whether any object is a rule of the source's program."""
    if not isinstance(thing, tuple) or len(thing) != len(signs_of(source.program)):
        return False
    return all([is_number(place, 0, len(source.program) - 1) for place in thing])


def rule_gains(source, rule):
    """Return the gains at which the wrong share of a rule is a share."""
    if not _is_rule(source, rule):
        raise NoRule("this is no rule of the source's program")
    return tuple([tuple([0 if place == blamed else 1 for blamed in rule]) for place in range(len(source.program))])


def wrong_share(source, rule):
    """Return the greatest share of the samples that a rule blames wrongly, or None if there is no round."""
    return share_of(source, rule_gains(source, rule))


def _shares(source):
    """Return the list of all rules, ascending, each with its wrong share."""
    if _how_many_rules(source) > MOST_RULES:
        raise TooMany(MOST_RULES)
    return [(rule, wrong_share(source, rule)) for rule in rules_of(source)]


def _least_share(shares):
    """Return the least wrong share of some rules, or None."""
    found = shares[0][1]
    for rule, share in shares:
        # Whether there is a round does not hang on the rule.
        if share is not None and is_less(share, found):
            found = share
    return found


def best_rules(source):
    """Return the least wrong share of a rule, or None, and the ascending list of the best rules."""
    shares = _shares(source)
    found = _least_share(shares)
    return found, [rule for rule, share in shares if share == found]


def best_papers(source):
    """Return for each rule, in order, bounds of the least wrong share or a round with a mean above it."""
    shares = _shares(source)
    found, papers = _least_share(shares), []
    for rule, share in shares:
        gains = rule_gains(source, rule)
        papers.append(share_bounds(source, gains) if share == found else worst_round(source, gains))
    return papers


def _shows_rule(source, rule, share, is_best, paper):
    """Tell whether any object shows that a rule is a best one, or that it is none."""
    gains = rule_gains(source, rule)
    if is_best:
        return shows_bounds(source, gains, NOTHING if share is None else share, paper)
    return is_round(source, paper) and is_less(share, mean_of(source, gains, paper))


def shows_best(source, thing):
    """Tell whether any object is the least wrong share, the best rules, and papers that show them."""
    share, rules = best_rules(source)
    if not isinstance(thing, tuple) or len(thing) != 3:
        return False
    value, best, papers = thing
    if value != share or not (value is None or is_fraction(value)):
        return False
    if best != rules or not all([_is_rule(source, rule) for rule in best]):
        return False
    if not isinstance(papers, list) or len(papers) != _how_many_rules(source):
        return False
    pairs = list(zip(rules_of(source), papers))
    return all([_shows_rule(source, rule, share, rule in rules, paper) for rule, paper in pairs])
