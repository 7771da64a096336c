"""The promises [1.1] and [1.2]."""

import inspect
import unittest

from samples import NOT_INTEGERS
from wonbyturns import errors

GAME_ERRORS = (
    "InvalidWord",
    "InvalidFraction",
    "InvalidGame",
    "InvalidHouse",
    "InvalidRow",
    "InvalidWeights",
    "InvalidPolicy",
    "InvalidController",
    "InvalidLot",
    "InvalidOperation",
    "ParseError",
)

KEEPING = {
    "UnknownGame": (KeyError, "asked"),
    "NoRow": (LookupError, "wanted"),
    "NothingToUndo": (IndexError, "amount"),
    "TooMany": (OverflowError, "limit"),
    "Refused": (ArithmeticError, "cause"),
    "InvalidNumber": (RuntimeError, "number"),
}


class Derivations(unittest.TestCase):
    def test_game_error_is_a_value_error(self):
        self.assertEqual(errors.GameError.__bases__, (ValueError,))

    def test_invalid_values_are_game_errors(self):
        for name in GAME_ERRORS:
            with self.subTest(name):
                self.assertEqual(getattr(errors, name).__bases__, (errors.GameError,))

    def test_others_are_derived_from_errors_of_python(self):
        for name, (base, _) in KEEPING.items():
            with self.subTest(name):
                self.assertEqual(getattr(errors, name).__bases__, (base,))

    def test_there_are_no_other_errors(self):
        found = [name for name, _ in inspect.getmembers(errors, inspect.isclass)]
        self.assertEqual(sorted(found), sorted(GAME_ERRORS + tuple(KEEPING) + ("GameError",)))


class Arguments(unittest.TestCase):
    def test_game_errors_take_a_message(self):
        for name in ("GameError",) + GAME_ERRORS[:-1]:
            with self.subTest(name):
                error = getattr(errors, name)("why it is wrong")
                self.assertEqual(str(error), "why it is wrong")

    def test_parse_error_keeps_its_line(self):
        for line in (0, 7, None):
            with self.subTest(line):
                self.assertIs(errors.ParseError(line).line, line)

    def test_others_keep_their_argument(self):
        for name, (_, attribute) in KEEPING.items():
            for value in NOT_INTEGERS + (0, 300):
                with self.subTest(name):
                    error = getattr(errors, name)(value)
                    self.assertEqual(getattr(error, attribute), value)
                    self.assertIs(getattr(error, attribute).__class__, value.__class__)

    def test_errors_are_raised_and_caught_by_their_bases(self):
        with self.assertRaises(ValueError):
            raise errors.ParseError(3)
        with self.assertRaises(LookupError):
            raise errors.UnknownGame("coin")


if __name__ == "__main__":
    unittest.main()
