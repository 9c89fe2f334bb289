"""The error classes of the interface."""

import unittest

from odds import errors
from tests.support import Case

BELOW_ODDS_ERROR = (
    "InvalidNumeral", "ZeroDivisor", "InvalidRatio", "EmptyTable", "NoSuchPlace", "InvalidToken",
    "InvalidSyntax", "TooDeep", "CheckError", "Fault", "TooLarge", "NotANode", "InvalidDiagram",
    "NoValue", "NoEvidence", "NoSuchCoin", "InvalidReport",
)
BELOW_CHECK_ERROR = ("NameClash", "BadSize", "UnknownName", "WrongCount", "KindMismatch")
WITH_AT = ("InvalidToken", "InvalidSyntax")


class ErrorsTest(Case):

    def test_bases(self):
        self.assertEqual(errors.OddsError.__bases__, (ValueError,))
        for name in BELOW_ODDS_ERROR:
            self.assertEqual(getattr(errors, name).__bases__, (errors.OddsError,), name)
        for name in BELOW_CHECK_ERROR:
            self.assertEqual(getattr(errors, name).__bases__, (errors.CheckError,), name)

    def test_defined_in_the_file(self):
        for name in ("OddsError", *BELOW_ODDS_ERROR, *BELOW_CHECK_ERROR):
            self.assertEqual(getattr(errors, name).__module__, "odds.errors")
            self.assertEqual(getattr(errors, name).__name__, name)

    def test_at(self):
        for name in WITH_AT:
            for at in (0, 5, 10 ** 30):
                error = getattr(errors, name)(at)
                self.same(error.at, at)
                self.assertIsInstance(str(error), str)

    def test_raised_and_caught(self):
        for name in ("OddsError", *BELOW_ODDS_ERROR, *BELOW_CHECK_ERROR):
            made = getattr(errors, name)
            with self.assertRaises(made) as caught:
                raise made(7) if name in WITH_AT else made("why")
            self.assertIsInstance(caught.exception, errors.OddsError)
            self.assertEqual(isinstance(caught.exception, errors.CheckError),
                             name == "CheckError" or name in BELOW_CHECK_ERROR)


if __name__ == "__main__":
    unittest.main()
