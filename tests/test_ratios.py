import unittest

from skidblame.ratios import is_fraction, is_less, lowest
from tests.things import odd_things


class Ratios(unittest.TestCase):
    def test_lowest(self):
        self.assertEqual([(0, 1), (0, 1), (1, 2), (-1, 2), (3, 1), (-3, 1), (7, 5)], [
            lowest(0, 1), lowest(0, 9), lowest(3, 6), lowest(-4, 8), lowest(6, 2), lowest(-9, 3), lowest(7, 5)])

    def test_is_fraction(self):
        for right in ((0, 1), (1, 1), (-1, 1), (1, 2), (-7, 5), (10 ** 12, 1)):
            self.assertIs(True, is_fraction(right))
        for wrong in ((0, 2), (2, 4), (-2, 4), (1, 0), (1, -1), (-1, -2), (0, 0), (True, 1), (1, True), (1,), (1, 2, 3), [1, 2], "12", ("1", 2)):
            self.assertIs(False, is_fraction(wrong))
        for thing in odd_things():
            self.assertIs(thing == (1, 2), is_fraction(thing))

    def test_is_less(self):
        order = [(-3, 1), (-1, 2), (-1, 3), (0, 1), (1, 3), (499999, 10 ** 6), (1, 2), (2, 3), (1, 1)]
        for at, one in enumerate(order):
            for index, other in enumerate(order):
                self.assertIs(at < index, is_less(one, other))


if __name__ == "__main__":
    unittest.main()
