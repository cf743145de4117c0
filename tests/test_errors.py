"""[1.1], [1.2]: the errors."""

import unittest

from arrowsizes import errors
from tests.helpers import Case, SIXTY_ONE

PLAIN = (
    "InvalidPoly", "InvalidParts", "InvalidTable", "InvalidPlan", "InvalidSizes", "InvalidFilling", "InvalidPrime",
    "InvalidPoint", "InvalidWeight", "InvalidPledge", "InvalidOperation",
)
KEEPING = (
    ("ParseError", errors.ArrowError, "spot"), ("InvalidCount", IndexError, "value"),
    ("UnknownName", KeyError, "name"), ("NothingToUndo", RuntimeError, "wanted"),
    ("TooMany", OverflowError, "limit"), ("Refused", ArithmeticError, "reason"),
)


class Errors(Case):

    def test_bases(self):
        self.assertEqual(errors.ArrowError.__bases__, (ValueError,))
        for name in PLAIN:
            self.assertEqual(getattr(errors, name).__bases__, (errors.ArrowError,), name)
        for name, base, _ in KEEPING:
            self.assertEqual(getattr(errors, name).__bases__, (base,), name)

    def test_defined_in_their_file(self):
        for name in PLAIN + tuple([row[0] for row in KEEPING]) + ("ArrowError",):
            self.assertEqual(getattr(errors, name).__module__, "arrowsizes.errors")

    def test_plain_errors_take_a_message(self):
        for name in PLAIN + ("ArrowError",):
            self.assertIn("some words", str(getattr(errors, name)("some words")))
            with self.assertRaises(ValueError):
                raise getattr(errors, name)("some words")

    def test_keeping_errors_keep_any_value(self):
        values = (0, -1, True, None, "text", (), (1, (2,)), [1], {"a": 1}, SIXTY_ONE, 10 ** 99, errors.ArrowError("x"))
        for name, base, attribute in KEEPING:
            for value in values:
                error = getattr(errors, name)(value)
                self.assertIs(getattr(error, attribute), value)
                with self.assertRaises(base) as caught:
                    raise error
                self.assertIs(getattr(caught.exception, attribute), value)

    def test_keeping_errors_share_no_state(self):
        one, other = errors.TooMany(1), errors.TooMany(2)
        self.assertEqual((one.limit, other.limit), (1, 2))


if __name__ == "__main__":
    unittest.main()
