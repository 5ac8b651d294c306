"""The classes of sheetwatch/errors.py: their base classes and fields."""

import unittest

from sheetwatch import errors

TEXT_ERRORS = (errors.TextError, errors.BadCharacter, errors.BadNumber, errors.BadQuote, errors.Unexpected)
RULE_ERRORS = (
    errors.RuleError, errors.DoubleName, errors.UnknownName, errors.WrongCount, errors.WrongKind, errors.NoKind,
    errors.NotWatchable,
)
LOG_ERRORS = (errors.LogError, errors.BadLine, errors.BadTime)


class ErrorsTest(unittest.TestCase):
    def check_family(self, family):
        self.assertEqual(family[0].__bases__, (errors.WatchError,))
        for member in family[1:]:
            self.assertTrue(issubclass(member, family[0]), member)
        for member in family:
            for other in family[1:]:
                self.assertEqual(issubclass(member, other), member is other, (member, other))

    def test_bases(self):
        self.assertEqual(errors.WatchError.__bases__, (ValueError,))
        self.check_family(TEXT_ERRORS)
        self.check_family(RULE_ERRORS)
        self.check_family(LOG_ERRORS)

    def test_text_errors_have_a_row_and_a_column(self):
        for made in TEXT_ERRORS:
            error = made(3, 14)
            self.assertEqual((error.row, error.column), (3, 14))
            self.assertIn("3", str(error))
            self.assertIn("14", str(error))

    def test_rule_errors_have_a_word(self):
        for made in RULE_ERRORS:
            self.assertEqual(made("login").word, "login")
            self.assertIn("login", str(made("login")))

    def test_log_errors_are_made_without_arguments(self):
        for made in LOG_ERRORS:
            with self.assertRaises(ValueError):
                raise made()

    def test_all_stand_in_their_own_file(self):
        for made in (errors.WatchError, *TEXT_ERRORS, *RULE_ERRORS, *LOG_ERRORS):
            self.assertEqual(made.__module__, "sheetwatch.errors")
