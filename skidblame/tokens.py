"""The tokens of a text of one line, and a reader that goes through them."""

from skidblame.errors import SyntaxProblem
from skidblame.names import DIGITS, LETTERS, is_name

BLANKS = (" ", "\t")
SIGNS = (",", ";", ">", "-")
MOST_DIGITS = 10


def is_whole(row):
    """Tell whether a row of letters and digits, perhaps with a - ahead of it, is an integer."""
    digits = row[1:] if row.startswith("-") else row
    if not 1 <= len(digits) <= MOST_DIGITS or not all([digit in DIGITS for digit in digits]):
        return False
    return row == "0" or digits[0] != "0"


def _row_end(text, start):
    """Return where the row of letters and digits ends that begins at start, perhaps with a - ahead of a digit."""
    end = start
    if text[start] == "-" and start + 1 < len(text) and text[start + 1] in DIGITS:
        end = start + 1
    while end < len(text) and text[end] in LETTERS + DIGITS:
        end = end + 1
    return end


def _tokens_of(text):
    """Return the list of the tokens of a text, each with the column at which it begins."""
    found, at = [], 0
    while at < len(text):
        end = max(_row_end(text, at), at + 1)
        token = text[at:end]
        if token not in BLANKS:
            if token not in SIGNS and not is_name(token) and not is_whole(token):
                raise SyntaxProblem(1, at + 1)
            found.append((token, at + 1))
        at = end
    return found


class Reader:
    """Goes through the tokens of a text, and raises SyntaxProblem at the first one that is not right there."""

    def __init__(self, text):
        self._tokens = _tokens_of(text)
        self._at = 0
        self._behind = len(text) + 1

    def _token(self):
        """Return the next token, or an empty string behind the last one."""
        return self._tokens[self._at][0] if self._at < len(self._tokens) else ""

    def refuse(self):
        """Raise SyntaxProblem at the next token, or behind the last character."""
        if self._at < len(self._tokens):
            raise SyntaxProblem(1, self._tokens[self._at][1])
        raise SyntaxProblem(1, self._behind)

    def comes(self, token):
        """Tell whether this token comes next."""
        return self._token() == token

    def takes(self, token):
        """Tell whether this token comes next, and go on behind it if it does."""
        if self._token() != token:
            return False
        self._at = self._at + 1
        return True

    def has_name(self):
        """Tell whether a name comes next."""
        return is_name(self._token())

    def has_whole(self):
        """Tell whether an integer comes next."""
        return is_whole(self._token())

    def take_name(self):
        """Return the name that has to come next."""
        if not self.has_name():
            self.refuse()
        self._at = self._at + 1
        return self._tokens[self._at - 1][0]

    def take_whole(self):
        """Return the integer that has to come next."""
        if not self.has_whole():
            self.refuse()
        self._at = self._at + 1
        return int(self._tokens[self._at - 1][0])

    def take_number(self, least, most):
        """Return the integer from least to most that has to come next."""
        if not self.has_whole() or not least <= int(self._token()) <= most:
            self.refuse()
        return self.take_whole()

    def take_numbers(self, most):
        """Return the tuple of the ascending different integers from 0 to most that have to come next."""
        found = [self.take_number(0, most)]
        while self.has_whole():
            found.append(self.take_number(found[-1] + 1, most))
        return tuple(found)

    def end(self):
        """Raise SyntaxProblem if a token comes next."""
        if self._at < len(self._tokens):
            self.refuse()
