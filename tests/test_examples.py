"""The examples of the document as they are printed, each heading's on its own."""

import doctest
import unittest

ERRORS_AND_NAMES = """
>>> from skidblame.errors import BlameError, TooMany
>>> from skidblame.names import is_integer, is_name
>>> [TooMany(7).limit, isinstance(TooMany(7), BlameError), is_name("row12"), is_name("2row"), is_integer(True)]
[7, True, True, False, False]
"""

PROGRAMS = """
>>> from skidblame.programs import is_program, is_stretch, made, signs_of
>>> ring = (("a", (1,)), ("b", (2,)), ("a", (0, 2)))
>>> [is_program(ring), is_program((("a", (1,)),)), made(high=1, marks=(2,)), signs_of(ring), \
is_stretch(ring, [1, 2, 2, 0]), is_stretch(ring, [0, 2])]
[True, False, (1, None, 0, 1, (2,)), ['a', 'b'], True, False]
"""

SOURCES = """
>>> from skidblame.programs import made
>>> from skidblame.sources import Source, skids, stretch_of
>>> source = Source((("a", (1,)), ("b", (2,)), ("c", (0,))), made(high=1))
>>> [skids(source, 0), len(source), (1, 0, 1) in source, (1, 0, 2) in source, \
stretch_of(source, (1, 0, 1)), stretch_of(source, (-1, 1, 1))]
[[0, 1], 24, True, False, ([1, 2, 0, 1], 2), ([0, 1], 1)]
>>> Source((("a", (1,)), ("b", (2,)), ("c", (0,))), made(wide=1)).moves
[(-1, 0, 0), (-1, 1, 1), (-1, 2, 2), (0, 1, 1), (1, 2, 2), (2, 0, 0)]
>>> Source((("a", (1,)), ("b", ())), made(gap=3, low=2, high=5)).moves
[(-1, 0, 1), (-1, 1, 1)]
"""


class Examples(unittest.TestCase):
    def shows(self, text, many):
        test = doctest.DocTestParser().get_doctest(text, {}, self.id(), None, None)
        found = []
        result = doctest.DocTestRunner(verbose=False).run(test, out=found.append)
        self.assertEqual((0, many), (result.failed, result.attempted), "".join(found))

    def test_errors_and_names(self):
        self.shows(ERRORS_AND_NAMES, 3)

    def test_programs(self):
        self.shows(PROGRAMS, 3)

    def test_sources(self):
        self.shows(SOURCES, 6)


if __name__ == "__main__":
    unittest.main()
