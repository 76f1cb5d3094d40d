"""The column of each SyntaxProblem against going through all short rows of tokens, and all ways to go on."""

import re
import unittest
from itertools import product

from skidblame.errors import BlameError, SyntaxProblem
from skidblame.texts import parse_fitting, parse_program, parse_told, parse_watcher, parse_weights

NAME, NUMBER = "[a-z][a-z0-9]{0,7}", "-?[0-9]+"


def ascending(text):
    numbers = [int(token) for token in text.split()]
    return all(0 <= number <= 7 for number in numbers) and sorted(set(numbers)) == numbers


def is_program_text(text):
    """Whether tokens with one space between are a PROGRAM."""
    places = text.split(" ; ")
    found = [re.fullmatch(f"{NAME}(?: > ({NUMBER}(?: {NUMBER})*))?", place) for place in places]
    return len(places) <= 8 and all(match and ascending(match[1] or "") for match in found)


def is_setting(text):
    if re.fullmatch(f"(gap|low|high|wide) {NUMBER}", text):
        return 0 <= int(text.split()[1]) <= 30
    if text in ("wide none", "marks none"):
        return True
    return bool(re.fullmatch(f"marks {NUMBER}(?: {NUMBER})*", text)) and ascending(text[6:])


def is_watcher_text(text):
    settings = text.split(" , ")
    return all(is_setting(setting) for setting in settings) and len({setting.split()[0] for setting in settings}) == len(settings)


def is_told_text(text):
    return text == "-" or bool(re.fullmatch(f"{NAME}(?: {NAME})*", text))


def is_weights_text(text):
    return bool(re.fullmatch(f"{NUMBER}(?: {NUMBER})*", text))


def is_fitting_text(text):
    pairs = text.split(" , ")
    return text == "-" or all(re.fullmatch(f"{NUMBER} {NUMBER}", pair) and set(pair.split()) <= set("01234567") for pair in pairs)


SORTS = (
    (parse_program, is_program_text, ("a", "0", "7", "8", "-1", ">", ";", ",", "-"), 5),
    (parse_watcher, is_watcher_text, ("gap", "wide", "marks", "none", "a", "0", "7", "31", ","), 5),
    (parse_told, is_told_text, ("a", "gap", "0", "-1", "-", ",", ";", ">"), 4),
    (parse_weights, is_weights_text, ("a", "0", "-1", "9999999999", "-", ",", ";", ">"), 4),
    (parse_fitting, is_fitting_text, ("a", "0", "7", "8", "-1", "-", ",", ";"), 5),
)


class AllShortTexts(unittest.TestCase):
    def beginnings(self, is_right, tokens, most):
        """Each row of at most so many tokens with which a right text begins."""
        found = {}
        for many in range(most + 3):
            # Two tokens more are enough to come to the end of a right text.
            for row in product(tokens, repeat=many):
                if is_right(" ".join(row)):
                    found.update({row[:end]: True for end in range(len(row) + 1)})
        return found

    def column(self, parse, text):
        """The column at which a text is refused, or None if it is read."""
        try:
            parse(text)
        except SyntaxProblem as problem:
            self.assertEqual(1, problem.line)
            return problem.column
        except BlameError:
            return None
        return None

    def test_all_rows_of_three_tokens(self):
        for parse, is_right, tokens, _ in SORTS:
            right = self.beginnings(is_right, tokens, 3)
            for row in [row for many in range(4) for row in product(tokens, repeat=many)]:
                text = " ".join(row)
                good = max(end for end in range(len(row) + 1) if row[:end] in right)
                if good < len(row):
                    expected = len(" ".join(row[:good])) + (2 if good else 1)
                else:
                    expected = None if is_right(text) else len(text) + 1
                self.assertEqual(expected, self.column(parse, text), (parse.__name__, text))

    def test_longer_rows_that_are_right(self):
        for parse, is_right, tokens, most in SORTS:
            many = 0
            for row in product(tokens, repeat=most):
                text = " ".join(row)
                self.assertIs(is_right(text), self.column(parse, text) is None, (parse.__name__, text))
                many += is_right(text)
            self.assertGreater(many, 4, parse.__name__)

    def test_watchers_of_all_settings(self):
        settings = ("gap 1", "wide none", "low 0", "high 3", "marks 1 4", "marks none", "gap 2")
        for many in range(1, 5):
            for row in product(settings, repeat=many):
                text = ", ".join(row)
                self.assertIs(is_watcher_text(" , ".join(row)), self.column(parse_watcher, text) is None, text)


if __name__ == "__main__":
    unittest.main()
