"""The errors that the package raises."""


class BlameError(ValueError):
    """Every error of the package."""


class TooMany(BlameError):
    """There are more things than a limit lets there be."""

    def __init__(self, limit):
        self.limit = limit


class SyntaxProblem(BlameError):
    """A text goes wrong at a line and a column, both counted from 1."""

    def __init__(self, line, column):
        self.line = line
        self.column = column


class Unkept(BlameError):
    """The promise about the weights under a name would not be kept; told is a breach of it."""

    def __init__(self, name, told):
        self.name = name
        self.told = told


class NoProgram(BlameError):
    """A thing is no program, or there is none."""


class NoWatcher(BlameError):
    """A thing is no watcher, or none of this program."""


class NoWeights(BlameError):
    """A thing is no weights, no prices or no gains."""


class NoRule(BlameError):
    """A thing is no rule."""


class NoChange(BlameError):
    """A thing is no list of offers."""


class NoMend(BlameError):
    """There is no mend."""


class NoFit(BlameError):
    """A thing does not fit what it is told of."""


class NoName(BlameError):
    """A thing is no name, or nothing is kept under it."""


class NoMark(BlameError):
    """There is nothing to undo or to do again."""


class Mismatch(BlameError):
    """A thing does not go with what it is about."""


class InvalidCommand(BlameError):
    """A line is no command."""
