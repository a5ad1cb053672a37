"""The errors of the interface."""

import unittest

from lineworks import errors

PLAIN = [
    "NoSuchTable", "NoSuchStep", "NoSuchEntry", "NoSuchVersion", "WrongRow", "WrongNumberOfCosts",
    "WrongNumberOfChances", "TooManyRows", "TooManyQuestions", "TooManyEntries",
    "TooManyOperations", "TooManyCases", "TooManyReasons", "TooManyChanges",
]


class Errors(unittest.TestCase):
    def test_the_base_class(self):
        self.assertEqual(errors.LineError.__bases__, (ValueError,))

    def test_source_error(self):
        error = errors.SourceError(3, 14, "expected ;")
        self.assertIsInstance(error, errors.LineError)
        self.assertEqual((error.line, error.column, error.message), (3, 14, "expected ;"))
        self.assertEqual(str(error), "line 3, column 14: expected ;")

    def test_problem(self):
        error = errors.Problem("unknown name: a.x")
        self.assertIsInstance(error, errors.LineError)
        self.assertEqual(error.message, "unknown name: a.x")

    def test_invalid_argument(self):
        error = errors.InvalidArgument("other_row")
        self.assertIsInstance(error, errors.LineError)
        self.assertEqual(error.name, "other_row")
        self.assertEqual(str(error), "invalid argument: other_row")

    def test_classes_with_a_string(self):
        for name in PLAIN:
            with self.subTest(name):
                made = getattr(errors, name)
                self.assertEqual(made.__bases__, (errors.LineError,))
                self.assertEqual(made.__module__, "lineworks.errors")
                self.assertIsInstance(made("told"), ValueError)

    def test_classes_are_not_below_one_another(self):
        made = [getattr(errors, name) for name in PLAIN + ["SourceError", "Problem", "InvalidArgument"]]
        for one in made:
            self.assertEqual([other for other in made if issubclass(one, other)], [one])


if __name__ == "__main__":
    unittest.main()
