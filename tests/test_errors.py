"""The error classes of the interface (points 8 and 9)."""

import unittest

from roundknown import errors
from roundknown.errors import BadProgram, BadValue, NotTold, RoundError, TextError, TooLarge

OWN = [BadValue, BadProgram, NotTold, TooLarge, TextError]


class ErrorTests(unittest.TestCase):
    def test_one_family(self):
        self.assertTrue(issubclass(RoundError, ValueError))
        for error in OWN:
            self.assertTrue(issubclass(error, RoundError))
            self.assertIsNot(error, RoundError)
            for other in OWN:
                self.assertEqual(issubclass(error, other), error is other)

    def test_defined_in_the_file(self):
        for error in [RoundError] + OWN:
            self.assertEqual(error.__module__, "roundknown.errors")
            self.assertIs(getattr(errors, error.__name__), error)

    def test_attributes(self):
        self.assertEqual(BadValue("map").name, "map")
        problem = BadProgram(("body", 1), "map")
        self.assertEqual((problem.where, problem.why), (("body", 1), "map"))
        reason = ("product", 0, ((1, 1), (1, 1)))
        self.assertEqual(NotTold(reason).reason, reason)
        self.assertEqual(TooLarge("form").what, "form")
        problem = TextError(2, 17, "map")
        self.assertEqual((problem.line, problem.column, problem.words), (2, 17, "map"))

    def test_caught_as_family(self):
        for error in [BadValue("d"), BadProgram((), ""), NotTold(()), TooLarge(""), TextError(1, 1, "")]:
            with self.assertRaises(RoundError):
                raise error
            with self.assertRaises(ValueError):
                raise error


if __name__ == "__main__":
    unittest.main()
