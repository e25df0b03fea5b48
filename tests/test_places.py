"""Point 1.5: places, held against a plain count of the days of a month."""

import unittest

from dayspread.almanac import Calendar
from dayspread.places import is_at, is_place, place_day
from tests.plain import Table, all_places
from tests.samples import FAR, GREGORIAN, RARE, SHORT, SMALL


class IsPlaceTest(unittest.TestCase):
    def check(self, calendar, place, expected):
        self.assertIs(is_place(calendar, place), expected, place)

    def test_numbers(self):
        for number, expected in ((0, False), (1, True), (2, True), (59, True), (60, True), (61, False),
                                 (-1, False), (FAR, False), (-FAR, False)):
            self.check(SMALL, ("day", number), expected)
            self.check(SMALL, ("back", number), expected)
            self.check(SMALL, ("weekday", number, 1), expected)
            self.check(SMALL, ("weekback", number, 1), expected)

    def test_weekdays(self):
        for week in range(1, 11):
            calendar = Calendar((9,), week=week)
            for weekday, expected in ((-1, False), (0, True), (week - 1, True), (week, False), (FAR, False),
                                      (-week, False)):
                self.check(calendar, ("weekday", 1, weekday), expected)
                self.check(calendar, ("weekback", 60, weekday), expected)

    def test_parts_too_few_and_too_many(self):
        for place in ((), ("day",), ("back",), ("weekday",), ("weekback",), ("weekday", 1), ("weekback", 1),
                      ("day", 1, 1), ("back", 1, 1), ("weekday", 1, 1, 1), ("weekback", 1, 1, 1),
                      ("day", 1, 1, 1), ("back", "back", 1), (1,), (1, 1), (1, 1, 1), (0,) * 50):
            self.check(SMALL, place, False)

    def test_other_words(self):
        for word in ("", "Day", "DAY", "days", "da", "day ", " day", "day\n", "backs", "Back", "week", "month"):
            self.check(SMALL, (word, 1), False)
            self.check(SMALL, (word, 1, 1), False)
        for word in ("Weekday", "weekdays", "weekback ", "WEEKBACK", "week"):
            self.check(SMALL, (word, 1, 1), False)

    def test_strings_and_integers_exchanged(self):
        for place in (("day", "1"), ("back", "1"), ("day", ""), (1, "day"), (1, "back"), ("day", "day"),
                      ("weekday", "1", 1), ("weekday", 1, "1"), ("weekback", "1", "1"), (1, "weekday", 1),
                      (1, 1, "weekback"), ("weekday", "weekday", 1), ("weekback", 1, "weekback"), (1, 1, 1)):
            self.check(SMALL, place, False)


class PlaceDayTest(unittest.TestCase):
    def test_each_month_of_some_cycles(self):
        for calendar in SHORT:
            table = Table(calendar, 2 * calendar.cycle)
            repeat = calendar.repeat_days()
            far_months = FAR * repeat // calendar.cycle_days() * calendar.cycle * len(calendar.months)
            places = all_places(calendar, 14) + [("day", 40), ("day", 41), ("back", 46), ("day", 60), ("back", 60)]
            for index, days in enumerate(table.months):
                for place in places:
                    expected = table.place_day(index, place)
                    self.assertEqual(place_day(calendar, index, place), expected, (calendar.months, index, place))
                    far = None if expected is None else expected + FAR * repeat
                    self.assertEqual(place_day(calendar, index + far_months, place), far)

    def test_months_of_the_long_calendars(self):
        for calendar in (GREGORIAN, RARE):
            table = Table(calendar, calendar.cycle)
            places = all_places(calendar, 6) + [("day", 28), ("day", 29), ("day", 31), ("back", 29), ("back", 31)]
            for index in (*range(0, 40), *range(len(table.months) - 40, len(table.months))):
                for place in places:
                    self.assertEqual(place_day(calendar, index, place), table.place_day(index, place))

    def test_known_days(self):
        self.assertEqual(place_day(GREGORIAN, 1, ("day", 29)), 59)
        self.assertIsNone(place_day(GREGORIAN, 13, ("day", 29)))
        self.assertEqual(place_day(GREGORIAN, 13, ("back", 1)), 366 + 31 + 27)
        self.assertEqual(place_day(GREGORIAN, 0, ("weekday", 1, 3)), 3)
        self.assertEqual(place_day(GREGORIAN, 0, ("weekback", 1, 3)), 24)
        self.assertEqual(place_day(GREGORIAN, 0, ("weekday", 5, 0)), 28)
        self.assertIsNone(place_day(GREGORIAN, 0, ("weekday", 5, 3)))
        self.assertIsNone(place_day(GREGORIAN, 0, ("weekback", 5, 6)))
        self.assertIsNone(place_day(GREGORIAN, 0, ("weekday", 60, 0)))


class IsAtTest(unittest.TestCase):
    def test_each_day_of_a_cycle(self):
        for calendar in SHORT:
            table = Table(calendar, min(calendar.cycle, 5))
            places = all_places(calendar, 4) + [("day", 40), ("back", 40)]
            repeat = calendar.repeat_days()
            for day in range(len(table.dates)):
                for place in places:
                    expected = table.place_day(table.index(day), place) == day
                    self.assertIs(is_at(calendar, place, day), expected, (calendar.months, place, day))
            for day in range(0, len(table.dates), 7):
                for place in places:
                    expected = table.place_day(table.index(day), place) == day
                    self.assertIs(is_at(calendar, place, day + FAR * repeat), expected)

    def test_a_month_without_such_a_day(self):
        start = GREGORIAN.day_of(1999, 2, 1)
        for day in range(start, start + 28):
            self.assertIs(is_at(GREGORIAN, ("day", 29), day), False)
            self.assertIs(is_at(GREGORIAN, ("back", 29), day), False)
        self.assertIs(is_at(GREGORIAN, ("back", 28), start), True)
