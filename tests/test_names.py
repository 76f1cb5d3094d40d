import unittest

from skidblame.names import is_ascending, is_integer, is_name, is_number
from tests.things import odd_things, unchanged


class Integers(unittest.TestCase):
    def test_integers(self):
        for thing in [0, 1, -1, 7, 10 ** 12, -10 ** 12, 10 ** 40]:
            self.assertIs(True, is_integer(thing), thing)

    def test_bools_and_other_things_are_none(self):
        for thing in [True, False, None, "", "1", "a", (), (1,), [], [1], {}, {1: 1}]:
            self.assertIs(False, is_integer(thing), thing)

    def test_any_object_is_told_and_stays_as_it_was(self):
        for thing in odd_things():
            told = unchanged(self, is_integer, thing)
            self.assertIs(type(thing) is int, told)

    def test_number(self):
        self.assertEqual([False, True, True, False], [is_number(k, 2, 3) for k in (1, 2, 3, 4)])
        self.assertEqual([False] * 3, [is_number(thing, 0, 1) for thing in (True, None, "1")])


class Names(unittest.TestCase):
    def test_names(self):
        for thing in ["a", "z", "m", "a0", "a9", "row12", "abcdefgh", "z2345678", "aaaaaaa"]:
            self.assertIs(True, is_name(thing), thing)

    def test_lengths(self):
        self.assertEqual([False] + [True] * 8 + [False] * 3, [is_name("a" * many) for many in range(12)])
        self.assertEqual([False] + [True] * 8 + [False] * 3, [is_name("a12345678901"[:many]) for many in range(12)])

    def test_other_strings_are_none(self):
        for thing in ["", "2row", "0", "9a", "A", "aB", "Za", "a b", " a", "a ", "a\n", "\na", "a\t", "a-b", "a_b", "_a",
                      "a.b", "a,", "{a", "`a", "a{", "a`", "a/", "a:", "\u00e9", "a\u00e9", "\u00df", "a\u0663", "\u0430"]:
            self.assertIs(False, is_name(thing), repr(thing))

    def test_each_single_character_behind_a_letter_and_alone(self):
        letters = "abcdefghijklmnopqrstuvwxyz"
        for sign in map(chr, range(300)):
            self.assertIs(sign in letters, is_name(sign), repr(sign))
            self.assertIs(sign in letters + "0123456789", is_name("a" + sign), repr(sign))

    def test_any_object_is_told_and_stays_as_it_was(self):
        for thing in [*odd_things(), 0, 1, ["a"], ("a",), {"a": "a"}, ["a", "b"]]:
            self.assertIs(False, unchanged(self, is_name, thing))


class Ascents(unittest.TestCase):
    def test_ascending(self):
        for thing in [(), (0,), (3,), (0, 3), (0, 1, 2, 3)]:
            self.assertIs(True, is_ascending(thing, 3), thing)

    def test_others(self):
        for thing in [(4,), (-1,), (0, 0), (1, 0), (0, 2, 1), (0, 1, 4), (True,), (0, True), (False,), [0], [], None, "",
                      {}, {0: 1}, (None,), ("0",), ((0,),), 0]:
            self.assertIs(False, is_ascending(thing, 3), thing)


if __name__ == "__main__":
    unittest.main()
