"""The examples of the document as they are printed, each heading's on its own."""

import doctest
import unittest

ERRORS_AND_NAMES = """
>>> from skidblame.errors import BlameError, TooMany
>>> from skidblame.names import is_integer, is_name
>>> [TooMany(7).limit, isinstance(TooMany(7), BlameError), is_name("row12"), is_name("2row"), is_integer(True)]
[7, True, True, False, False]
"""

PROGRAMS = """
>>> from skidblame.programs import is_program, is_stretch, made, signs_of
>>> ring = (("a", (1,)), ("b", (2,)), ("a", (0, 2)))
>>> [is_program(ring), is_program((("a", (1,)),)), made(high=1, marks=(2,)), signs_of(ring), \
is_stretch(ring, [1, 2, 2, 0]), is_stretch(ring, [0, 2])]
[True, False, (1, None, 0, 1, (2,)), ['a', 'b'], True, False]
"""

SOURCES = """
>>> from skidblame.programs import made
>>> from skidblame.sources import Source, skids, stretch_of
>>> source = Source((("a", (1,)), ("b", (2,)), ("c", (0,))), made(high=1))
>>> [skids(source, 0), len(source), (1, 0, 1) in source, (1, 0, 2) in source, \
stretch_of(source, (1, 0, 1)), stretch_of(source, (-1, 1, 1))]
[[0, 1], 24, True, False, ([1, 2, 0, 1], 2), ([0, 1], 1)]
>>> Source((("a", (1,)), ("b", (2,)), ("c", (0,))), made(wide=1)).moves
[(-1, 0, 0), (-1, 1, 1), (-1, 2, 2), (0, 1, 1), (1, 2, 2), (2, 0, 0)]
>>> Source((("a", (1,)), ("b", ())), made(gap=3, low=2, high=5)).moves
[(-1, 0, 1), (-1, 1, 1)]
"""

FITTINGS = """
>>> from skidblame.fittings import fitting, how_many, is_fitting, reached, run_of, shows_run
>>> from skidblame.programs import made
>>> from skidblame.sources import Source
>>> source = Source((("a", (1,)), ("b", (2,)), ("c", (0,))), made(high=1))
>>> [reached(source, ["b", "b"]), fitting(source, ["b", "b"]), how_many(source, ["b", "b"]), \
is_fitting(source, ["b"], [(1, 1)]), fitting(source, ["x"])]
[[[-1], [1], [1]], [(0, 1), (0, 1)], 4, True, None]
>>> [run_of(source, [(0, 1), (0, 1)]), shows_run(source, [(0, 1)], ([0, 1, 2], [(0, 1)])), \
shows_run(source, [(0, 1)], ([0, 1, 2], [(0, 2)]))]
[([0, 1, 2, 0, 1], [(0, 1), (3, 4)]), True, False]
"""

WEIGHTS = """
>>> from skidblame.programs import made
>>> from skidblame.sources import Source
>>> from skidblame.weights import counts, greatest, least, shows_least, surely
>>> source, told = Source((("a", (1,)), ("b", (2,)), ("c", (0,))), made(high=1)), ["b", "b"]
>>> [least(source, told, (1, 0, 0))[:2], greatest(source, told, (1, 0, 0))[:2], counts(source, told, (0, 2)), \
surely(source, told)]
[(0, [(1, 1), (1, 1)]), (2, [(0, 1), (0, 1)]), (0, 2), [(0, 2), (1, 2)]]
>>> [shows_least(source, told, (1, 0, 0), (0, [(1, 1), (1, 1)], [{-1: 0}, {1: 0}, {1: 0}])), \
shows_least(source, told, (1, 0, 0), (1, [(0, 1), (1, 1)], [{-1: 0}, {1: 0}, {1: 0}]))]
[True, False]
"""

SPREAD = """
>>> from skidblame.programs import made
>>> from skidblame.sources import Source
>>> from skidblame.spread import growth, shows_growth, shows_spread, spread_bounds, spread_of
>>> fork = (("s", (1, 2)), ("x", (3,)), ("x", (3,)), ("y", (3,)))
>>> source = Source(fork, made(wide=1))
>>> [spread_of(source, (0, 1, 0, 0)), spread_bounds(source, (0, 1, 0, 0)), growth(source, (0, 1, 0, 0))]
[1, {(-1, -1): 0, (0, 0): 0, (1, 1): 0, (1, 2): 1, (2, 1): -1, (2, 2): 0, (3, 3): 1}, None]
>>> free = Source((("a", (1, 2)), ("b", (0,)), ("b", (0,))), made(gap=2, wide=2))
>>> [spread_of(free, (0, 1, 0)), shows_growth(free, (0, 1, 0), ([(1, 1), (1, 1)], [(2, 2), (2, 2)], 1)), \
shows_spread(source, (0, 1, 0, 0), 2, {})]
[None, True, False]
"""

SHARES = """
>>> from skidblame.programs import made
>>> from skidblame.shares import excess_of, gains_of, share_bounds, share_of, shows_bounds, shows_round, worst_round
>>> from skidblame.sources import Source
>>> source = Source((("a", (1,)), ("b", (0,))), made(wide=1))
>>> gains = gains_of(source, (1, 0), (0, 0))
>>> [gains, share_of(source, gains), share_bounds(source, gains), excess_of(source, gains)]
[((1, 1), (0, 0)), (1, 2), {-1: 0, 0: 1, 1: 0}, 1]
>>> [shows_round(source, gains, (1, 2), ([(0, 0), (1, 1), (0, 0)], 1)), shows_bounds(source, gains, (1, 3), \
{-1: 0, 0: 2, 1: 1}), shows_bounds(source, gains, (2, 3), {-1: 0, 0: 1, 1: 0})]
[True, False, True]
"""

RULES = """
>>> from skidblame.programs import made
>>> from skidblame.rules import best_rules, best_papers, rules_of, shows_best, wrong_share
>>> from skidblame.sources import Source
>>> source = Source((("a", (1,)), ("b", (0,))), made(wide=1, low=1, high=1))
>>> [list(rules_of(source)), wrong_share(source, (0, 1)), wrong_share(source, (1, 0)), best_rules(source)]
[[(0, 0), (0, 1), (1, 0), (1, 1)], (1, 1), (0, 1), ((0, 1), [(1, 0)])]
>>> [shows_best(source, (*best_rules(source), best_papers(source))), shows_best(source, ((0, 1), [(1, 0)], []))]
[True, False]
"""

COVERS = """
>>> from skidblame.covers import apart, behind, difference, is_within, shows_cover
>>> from skidblame.programs import made
>>> from skidblame.sources import Source
>>> ring, line = Source((("a", (1,)), ("b", (2,)), ("c", (0,))), made()), Source((("a", (1,)), ("b", (2,)), \
("c", ())), made())
>>> [behind(line, (-1,), "b"), behind(line, (0, 1), "c"), apart(ring, line), difference(line, ring), \
is_within(line, ring)]
[(1,), (2,), ['a', 'a'], ['a', 'a'], True]
>>> shows_cover(line, ring, [(-1, (-1,)), (0, (0,)), (1, (1,)), (2, (2,))])
True
"""

MENDS = """
>>> from skidblame.mends import breach, cheapest, choices, greatest_high, marked, settled, shows_breach, \
shows_cheapest
>>> from skidblame.programs import made
>>> from skidblame.sources import Source
>>> source, offers = Source((("a", (1,)), ("b", (2,)), ("c", (0,))), made(wide=1, high=1)), [(0, 3), (1, 1), (2, 2)]
>>> [list(choices(offers)), settled(source, (1, 0, 0), 0), breach(source, (1, 0, 0), 1), greatest_high(source, \
(1, 0, 0), 0), greatest_high(source, (1, 0, 0), 1)]
[[(), (1,), (2,), (0,), (1, 2), (0, 1), (0, 2), (0, 1, 2)], False, None, 0, 30]
>>> found = cheapest(source, (1, 0, 0), 0, offers)
>>> [found[:2], [reason[0] for reason in found[3]], marked(source, offers, found[0]).watcher, \
shows_cheapest(source, (1, 0, 0), 0, offers, found), shows_breach(source, (1, 0, 0), 0, ([(0, 0)], [(2, 0)]))]
[((0, 2), 5), [(), (1,), (2,), (0,), (1, 2), (0, 1)], (1, 1, 0, 1, (0, 2)), True, True]
"""

LIVE = """
>>> from skidblame.live import Watch, widths
>>> from skidblame.programs import made
>>> from skidblame.sources import Source
>>> watch = Watch(Source((("a", (1,)), ("b", (2,)), ("c", (0,))), made(wide=1, high=1)))
>>> watch.keep("zero", (1, 0, 0))
>>> [watch("b"), watch.between("zero"), watch("a"), watch.between("zero"), watch.places, watch.signs]
[[1], (0, 1), [0], (0, 1), [0], ['b', 'a']]
>>> watch.keep("one", (0, 1, 0))
>>> [watch.between("one"), widths(watch), watch.undo(), watch("c"), watch.between("one"), len(watch), "one" in watch]
[(0, 1), {'one': 1, 'zero': 1}, None, [2], (0, 1), 2, True]
"""

DESK = """
>>> from skidblame.desk import Desk
>>> from skidblame.errors import Unkept
>>> from skidblame.programs import made
>>> from skidblame.sources import Source
>>> desk = Desk(Source((("a", (1,)), ("b", (2,)), ("c", (0,))), made(wide=1)))
>>> [desk.do(("weights", "zero", (1, 0, 0))), desk.do(("promise", "zero", 0)), desk.promises(), desk.do(("mark", 0))]
[None, None, {'zero': 0}, None]
>>> watch = desk.live()
>>> [desk.do(("promise", "zero", 1)), desk.do(("watch", 1, 1, 0, 1)), desk.now.watcher, desk.undo(), \
desk.now.watcher, watch("a"), watch.between("zero")]
[None, None, (1, 1, 0, 1, (0,)), None, (1, 1, 0, 0, (0,)), [0], (1, 1)]
>>> [len(desk.notes()), "zero" in desk, desk["zero"], desk.names()]
[4, True, (1, 0, 0), ['zero']]
"""

TEXTS = """
>>> from skidblame.texts import format_fitting, format_program, format_told, format_watcher, parse_program, \
parse_told, parse_watcher, parse_weights
>>> [parse_program("a > 1; b > 0 1;end"), format_program((("a", (1,)), ("b", ()))), \
parse_watcher("high 2,marks 0 3"), format_watcher((1, None, 0, 2, (0, 3)))]
[(('a', (1,)), ('b', (0, 1)), ('end', ())), 'a > 1; b', (1, None, 0, 2, (0, 3)), 'gap 1, wide none, low 0, \
high 2, marks 0 3']
>>> [parse_told("a b a"), format_told([]), parse_weights("1 -5 0"), format_fitting([(0, 1), (2, 2)])]
[['a', 'b', 'a'], '-', (1, -5, 0), '0 1, 2 2']
"""

CONSOLE = """
>>> from skidblame.console import Console
>>> console = Console()
>>> [console.execute(line) for line in ["open : a > 1; b > 2; c > 0 : high 1", "weights zero : 1 0 0", \
"fit : b b", "many : b b", "between zero : b b", "sure : b b"]]
['ok', 'ok', '0 1, 0 1', '4', '0 2', '0 2, 1 2']
>>> [console.execute(line) for line in ["watch 1 1 0 1", "spread zero", "live", "tell 0 b", "seen 0 zero", \
"mark 0", "watcher", "names"]]
['ok', '1', '0', '1', '0 1', 'ok', 'gap 1, wide 1, low 0, high 1, marks 0', 'zero']
"""


class Examples(unittest.TestCase):
    def shows(self, text, many):
        test = doctest.DocTestParser().get_doctest(text, {}, self.id(), None, None)
        found = []
        result = doctest.DocTestRunner(verbose=False).run(test, out=found.append)
        self.assertEqual((0, many), (result.failed, result.attempted), "".join(found))

    def test_errors_and_names(self):
        self.shows(ERRORS_AND_NAMES, 3)

    def test_programs(self):
        self.shows(PROGRAMS, 3)

    def test_sources(self):
        self.shows(SOURCES, 6)

    def test_fittings(self):
        self.shows(FITTINGS, 6)

    def test_weights(self):
        self.shows(WEIGHTS, 6)

    def test_spread(self):
        self.shows(SPREAD, 8)

    def test_shares(self):
        self.shows(SHARES, 7)

    def test_rules(self):
        self.shows(RULES, 6)

    def test_covers(self):
        self.shows(COVERS, 6)

    def test_mends(self):
        self.shows(MENDS, 7)

    def test_live(self):
        self.shows(LIVE, 8)

    def test_desk(self):
        self.shows(DESK, 9)

    def test_texts(self):
        self.shows(TEXTS, 3)

    def test_console(self):
        self.shows(CONSOLE, 4)


if __name__ == "__main__":
    unittest.main()
