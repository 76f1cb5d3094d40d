import unittest

from skidblame import errors
from skidblame.errors import BlameError, SyntaxProblem, TooMany, Unkept

WITH_MESSAGE = [
    "NoProgram", "NoWatcher", "NoWeights", "NoRule", "NoChange", "NoMend", "NoFit", "NoName", "NoMark", "Mismatch",
    "InvalidCommand",
]
WITH_FIELDS = ["TooMany", "SyntaxProblem", "Unkept"]


class Errors(unittest.TestCase):
    def test_blame_error_is_a_value_error(self):
        self.assertTrue(issubclass(BlameError, ValueError))

    def test_each_is_directly_under_blame_error_and_under_no_other_one(self):
        for name in WITH_MESSAGE + WITH_FIELDS:
            self.assertEqual((BlameError,), getattr(errors, name).__bases__, name)
            self.assertEqual("skidblame.errors", getattr(errors, name).__module__)

    def test_those_with_a_message(self):
        for name in WITH_MESSAGE:
            error = getattr(errors, name)("the message of it")
            self.assertEqual("the message of it", str(error), name)
            with self.assertRaises(BlameError):
                raise error

    def test_too_many(self):
        self.assertEqual(300, TooMany(300).limit)
        with self.assertRaises(TypeError):
            TooMany()

    def test_syntax_problem(self):
        error = SyntaxProblem(1, 17)
        self.assertEqual((1, 17), (error.line, error.column))

    def test_unkept(self):
        breach = ([(0, 0)], [(2, 0)])
        error = Unkept("zero", breach)
        self.assertEqual(("zero", ([(0, 0)], [(2, 0)])), (error.name, error.told))
        with self.assertRaises(Unkept):
            raise error


if __name__ == "__main__":
    unittest.main()
