"""The error classes of the interface."""

import unittest

from dayspread import errors

PLAIN = ("InvalidCalendar", "InvalidZone", "InvalidRule", "InvalidSpans", "InvalidSeries", "InvalidBooking",
         "InvalidNeed", "InvalidDay", "UnknownBooking", "UnknownGuest", "DuplicateName")
WITH_ATTRIBUTES = ("InvalidLine", "SelfClash", "Clash")


class ErrorsTest(unittest.TestCase):
    def test_the_base_is_a_value_error(self):
        self.assertEqual(errors.DayspreadError.__bases__, (ValueError,))

    def test_all_stand_directly_under_the_base(self):
        for name in PLAIN + WITH_ATTRIBUTES:
            found = getattr(errors, name)
            self.assertEqual(found.__bases__, (errors.DayspreadError,), name)
            self.assertEqual(found.__module__, "dayspread.errors")

    def test_plain_errors_tell_their_message(self):
        for name in PLAIN:
            self.assertEqual(str(getattr(errors, name)("why")), "why")

    def test_invalid_line(self):
        error = errors.InvalidLine(7)
        self.assertEqual(error.line, 7)
        self.assertIn("7", str(error))

    def test_self_clash(self):
        error = errors.SelfClash(10 ** 70)
        self.assertEqual(error.instant, 10 ** 70)
        self.assertIn(str(10 ** 70), str(error))

    def test_clash(self):
        error = errors.Clash("standup", "room1", 99)
        self.assertEqual((error.name, error.resource, error.instant), ("standup", "room1", 99))
        for word in ("standup", "room1", "99"):
            self.assertIn(word, str(error))
