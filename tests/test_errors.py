"""The errors of the package."""

import unittest

from honestrun import errors


class Errors(unittest.TestCase):
    def test_bases(self):
        self.assertEqual(errors.HonestrunError.__bases__, (ValueError,))
        for error in (errors.TooManyPossibilities, errors.NotInBook, errors.NotSaved):
            self.assertEqual(error.__bases__, (errors.HonestrunError,))

    def test_they_are_defined_there(self):
        for name in ("HonestrunError", "TooManyPossibilities", "NotInBook", "NotSaved"):
            error = getattr(errors, name)
            self.assertEqual((error.__name__, error.__module__), (name, "honestrun.errors"))
