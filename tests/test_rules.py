"""Points 3.1 to 3.3: which rules there are, which days fit, and which are days of a rule."""

import unittest

from dayspread.errors import DayspreadError, InvalidRule
from dayspread.rules import check_rule, fits, tells
from tests.plain import Table
from tests.rule_samples import NEVER, PLACES, patterns
from tests.samples import FAR, GREGORIAN, LEAST, SMALL, TWELVE

DAY = ("day", 1)


class CheckRuleTest(unittest.TestCase):
    """Points 3.1 and 3.2."""

    def check(self, rule, expected, calendar=SMALL):
        if expected:
            self.assertEqual(check_rule(calendar, rule), rule)
            return
        with self.assertRaises(InvalidRule, msg=rule) as caught:
            check_rule(calendar, rule)
        self.assertIs(type(caught.exception), InvalidRule)

    def check_pattern(self, pattern, expected, calendar=SMALL):
        self.check((pattern, 5, NEVER), expected, calendar)

    def check_end(self, end, expected, first=5):
        self.check((("days", 3), first, end), expected)

    def test_the_error_is_of_the_base_and_a_value_error(self):
        self.assertTrue(issubclass(InvalidRule, DayspreadError))
        self.assertTrue(issubclass(InvalidRule, ValueError))

    def test_the_very_rule_is_returned(self):
        for pattern in patterns(SMALL, (1, 30)):
            rule = (pattern, 17, ("count", 3))
            self.assertIs(check_rule(SMALL, rule), rule)

    def test_first(self):
        for first, expected in ((1, False), (2, True), (3, True), (0, False), (-1, False), (FAR, True),
                                (10 ** 299, True), (-FAR, False)):
            self.check((("days", 1), first, NEVER), expected)
            self.check((("months", 1, (DAY,)), first, ("count", 1)), expected)

    def test_every(self):
        for every, expected in ((0, False), (1, True), (2, True), (30, True), (31, False), (-1, False), (FAR, False),
                                (-FAR, False)):
            self.check_pattern(("days", every), expected)
            self.check_pattern(("weeks", every, (0,)), expected)
            self.check_pattern(("months", every, (DAY,)), expected)
            self.check_pattern(("years", every, 1, (DAY,)), expected)

    def test_weekdays(self):
        for weekdays, expected in (((), False), ((0,), True), ((3,), True), ((4,), False), ((-1,), False),
                                   ((0, 1, 2, 3), True), ((0, 1, 2, 3, 4), False), ((1, 0), False), ((1, 1), False),
                                   ((0, 2, 1), False), ((0, 0, 1), False), ((-1, 0), False), ((FAR,), False),
                                   ((0, FAR), False)):
            self.check_pattern(("weeks", 1, weekdays), expected)
        self.check_pattern(("weeks", 1, (0,)), True, LEAST)
        self.check_pattern(("weeks", 1, (1,)), False, LEAST)
        self.check_pattern(("weeks", 1, (0, 8)), True, TWELVE)
        self.check_pattern(("weeks", 1, (9,)), False, TWELVE)

    def test_month(self):
        for month, expected in ((0, False), (1, True), (3, True), (4, False), (-1, False), (FAR, False)):
            self.check_pattern(("years", 1, month, (DAY,)), expected)
        self.check_pattern(("years", 1, 12, (DAY,)), True, TWELVE)
        self.check_pattern(("years", 1, 13, (DAY,)), False, TWELVE)

    def check_places(self, places, expected):
        self.check_pattern(("months", 2, places), expected)
        self.check_pattern(("years", 2, 1, places), expected)

    def test_number_of_places(self):
        four = (("day", 1), ("back", 1), ("weekday", 1, 1), ("weekback", 1, 1))
        self.check_places((), False)
        for many in (1, 2, 3, 4):
            self.check_places(four[:many], True)
            self.check_places(four[:many][::-1], True)
        self.check_places((*four, ("day", 2)), False)

    def test_places_are_different(self):
        self.check_places((DAY, DAY), False)
        self.check_places((DAY, ("back", 1), DAY), False)
        self.check_places((("weekday", 1, 1), ("day", 3), ("back", 3), ("weekday", 1, 1)), False)
        self.check_places((("weekday", 1, 1), ("weekback", 1, 1), ("weekday", 1, 2), ("weekday", 2, 1)), True)
        # These two name the same day of a month of 3 days, but are different places.
        self.check_places((("day", 3), ("back", 1)), True)

    def test_each_place_is_checked(self):
        for place in (("day", 0), ("day", 61), ("back", -1), ("weekday", 1, 4), ("weekback", 1, -1), ("weekday", 1),
                      ("day", 1, 1), (), ("day",), ("days", 1), (1, "day"), ("day", "1"), ("day", (1,)),
                      (("day",), 1), ("weekday", 1, "1"), ("weekday", (1,), 1), ("weekback", 1, (1,)), (DAY,)):
            self.check_places((place,), False)
            self.check_places((DAY, place), False)
            self.check_places((place, ("back", 2)), False)
        self.check_places((("day", 60), ("back", 60), ("weekday", 60, 3), ("weekback", 60, 0)), True)

    def test_parts_of_another_kind(self):
        for places in (1, "day", "", DAY, ("day",), (1,), ("day", "back"), (1, DAY), (DAY, 1), (DAY, "day"),
                       (DAY, ("back", 1, ()))):
            self.check_places(places, False)
        for weekdays in (1, "0", "", ("0",), ((0,),), (0, "1"), ((), 1), ((),)):
            self.check_pattern(("weeks", 1, weekdays), False)
        for every in ("1", "", (1,), ()):
            self.check_pattern(("days", every), False)
            self.check_pattern(("weeks", every, (0,)), False)
            self.check_pattern(("months", every, (DAY,)), False)
            self.check_pattern(("years", every, 1, (DAY,)), False)
        for month in ("1", "", (1,), ()):
            self.check_pattern(("years", 1, month, (DAY,)), False)
        for word in (1, (), ("days",), "", "Days", "DAYS", "day", "days ", "week", "month", "year", "never"):
            self.check_pattern((word, 1), False)
            self.check_pattern((word, 1, (0,)), False)
            self.check_pattern((word, 1, (DAY,)), False)
            self.check_pattern((word, 1, 1, (DAY,)), False)

    def test_parts_too_few_and_too_many(self):
        for pattern in ((), ("days",), ("weeks",), ("months",), ("years",), (1,), ("days", 1, 1), ("days", 1, (0,)),
                        ("days", 1, ()), ("weeks", 1), ("weeks", (0,)), ("weeks", 1, (0,), (0,)), ("weeks", 1, 1, (0,)),
                        ("months", 1), ("months", (DAY,)), ("months", 1, 1, (DAY,)), ("months", 1, (DAY,), (DAY,)),
                        ("years", 1), ("years", 1, 1), ("years", 1, (DAY,)), ("years", 1, 1, (DAY,), 1),
                        ("years", 1, (DAY,), 1), ("weeks", 1, (DAY,)), ("months", 1, (0,))):
            self.check_pattern(pattern, False)
        self.check((("days", 1), 5), False)
        self.check((("days", 1), 5, NEVER, NEVER), False)

    def test_never(self):
        for end, expected in ((NEVER, True), ((), False), (("never", 1), False), (("never", ()), False),
                              (("Never",), False), (("",), False), ((1,), False), ((NEVER,), False),
                              (("until",), False), (("count",), False), (("never", "never"), False)):
            self.check_end(end, expected)

    def test_until(self):
        for first in (2, 5, 1000, FAR):
            for last, expected in ((first - 1, False), (first, True), (first + 1, True), (first + 2000, True),
                                   (first + 2001, False), (0, False), (-first, False), (first * 10 ** 9, False)):
                self.check_end(("until", last), expected, first)
        for end in (("until", "7"), ("until", (7,)), ("until", ()), ("until", 7, 7), ("Until", 7), (7, "until"),
                    ("until", "until"), (7, 7), ("until ", 7)):
            self.check_end(end, False)

    def test_count(self):
        for count, expected in ((0, False), (1, True), (2, True), (60, True), (61, False), (-1, False), (FAR, False)):
            self.check_end(("count", count), expected)
            self.check_end(("count", count), expected, FAR)
        for end in (("count", "7"), ("count", (7,)), ("count", ()), ("count", 7, 7), ("Count", 7), (7, "count"),
                    ("counts", 7), ("never", 7), ((), 7)):
            self.check_end(end, False)


class FitsTest(unittest.TestCase):
    """Point 3.1, for days below `first`, at it and behind it."""

    def test_each_day(self):
        for calendar in PLACES:
            table = Table(calendar, max(2 * calendar.cycle, 20))
            days = range(0, len(table.dates), max(1, len(table.dates) // 150))
            for pattern in patterns(calendar, (1, 2, 3, 7, 30)):
                for first in (2, 9, 13):
                    rule = (pattern, first, NEVER)
                    for day in {*days, 0, 1, first, first + 1}:
                        self.assertIs(fits(calendar, rule, day), table.fits(rule, day), (rule, day))

    def test_far_days(self):
        for calendar in PLACES:
            table = Table(calendar, max(2 * calendar.cycle, 20))
            # Every number of months, years, weeks or days that `every` can be divides this shift.
            far = FAR * 30 * 29 * 28 * calendar.repeat_days()
            days = range(0, len(table.dates), max(1, len(table.dates) // 60))
            for pattern in patterns(calendar, (1, 4, 28, 29, 30)):
                for day in {*days, 12}:
                    expected = table.fits((pattern, 12, NEVER), day)
                    self.assertIs(fits(calendar, (pattern, 12, NEVER), day + far), expected, (pattern, day))
                    self.assertIs(fits(calendar, (pattern, 12 + far, NEVER), day), expected, (pattern, day))
                    self.assertIs(fits(calendar, (pattern, 12 + far, NEVER), day + far), expected, (pattern, day))

    def test_the_end_is_not_looked_at(self):
        for end in (NEVER, ("until", 10), ("count", 1)):
            self.assertIs(fits(SMALL, (("days", 4), 10, end), 2), True)
            self.assertIs(fits(SMALL, (("days", 4), 10, end), 14), True)

    def test_the_year_of_first_counts_and_not_its_month(self):
        # The first day lies in month 3 of year 0; the years counted are 0, 2, 4 ..
        rule = (("years", 2, 1, (DAY,)), 9, NEVER)
        for year in range(10):
            self.assertIs(fits(SMALL, rule, SMALL.year_start(year)), year % 2 == 0)

    def test_weeks_are_counted_from_day_zero(self):
        # The first day is the last one of its week, so the week of its next fit begins on the day after.
        rule = (("weeks", 2, (0, 3)), 3, NEVER)
        self.assertEqual([day for day in range(16) if fits(SMALL, rule, day)], [0, 3, 8, 11])


class TellsTest(unittest.TestCase):
    """Point 3.3."""

    def test_each_day(self):
        for calendar in PLACES:
            table = Table(calendar, max(2 * calendar.cycle, 20))
            days = range(0, len(table.dates), max(1, len(table.dates) // 100))
            for pattern in patterns(calendar, (1, 3)):
                for end in (NEVER, ("until", 11), ("until", 40), ("count", 1), ("count", 5), ("count", 60)):
                    rule = (pattern, 11, end)
                    known = {day: True for day in table.rule_days(rule)}
                    ends = [*known][:1] + [*known][-1:]
                    for day in {*days, 10, 11, 12, 40, 41, *ends}:
                        if day < len(table.dates):
                            self.assertIs(tells(calendar, rule, day), day in known, (rule, day))

    def test_below_first(self):
        rule = (("days", 1), 7, NEVER)
        self.assertEqual([tells(SMALL, rule, day) for day in (0, 5, 6, 7, 8)], [False, False, False, True, True])

    def test_far_days(self):
        rule = (("days", 3), FAR, ("count", 60))
        last = FAR + 59 * 3
        for day, expected in ((FAR - 3, False), (FAR, True), (FAR + 1, False), (last, True), (last + 3, False)):
            self.assertIs(tells(SMALL, rule, day), expected)
        self.assertIs(tells(SMALL, (("days", 1), 2, NEVER), FAR), True)
        self.assertIs(tells(SMALL, (("days", 1), 2, ("count", 60)), FAR), False)

    def test_first_need_not_fit(self):
        rule = (("years", 1, 2, (("day", 29),)), 40, ("count", 2))
        start = GREGORIAN.day_of(4, 2, 29)
        self.assertIs(tells(GREGORIAN, rule, 40), False)
        self.assertEqual([day for day in range(5000) if tells(GREGORIAN, rule, day)], [59, start])
