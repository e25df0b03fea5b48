"""Points 1.1 to 1.4: calendars, held against a plain count of the days."""

import unittest
from math import lcm

from dayspread.almanac import Calendar
from dayspread.errors import DayspreadError, InvalidCalendar, InvalidDay
from tests.plain import Table, plain_length
from tests.samples import ALL, ALL_LONG, FAR, GREGORIAN, LEAST, NO_EXTRA, RARE, SHORT, SMALL, TWELVE


class ValuesTest(unittest.TestCase):
    """Point 1.1: which values there may be."""

    def valid(self, *args, **more):
        calendar = Calendar(*args, **more)
        for name, value in more.items():
            self.assertEqual(getattr(calendar, name), value)
        return calendar

    def refused(self, *args, **more):
        with self.assertRaises(InvalidCalendar, msg=(args, more)) as caught:
            Calendar(*args, **more)
        self.assertIs(type(caught.exception), InvalidCalendar)

    def test_the_error_is_of_the_base_and_a_value_error(self):
        self.assertTrue(issubclass(InvalidCalendar, DayspreadError))
        self.assertTrue(issubclass(InvalidCalendar, ValueError))

    def test_attributes_are_the_defaults(self):
        calendar = Calendar((30, 31))
        self.assertEqual(calendar.months, (30, 31))
        self.assertEqual((calendar.long_month, calendar.extra, calendar.cycle), (1, 0, 1))
        self.assertEqual((calendar.long_years, calendar.week, calendar.day), ((), 7, 1440))

    def test_attributes_are_the_values(self):
        calendar = Calendar((3, 5, 4), long_month=2, extra=6, cycle=5, long_years=(1, 4), week=8, day=9)
        self.assertEqual(calendar.months, (3, 5, 4))
        self.assertEqual((calendar.long_month, calendar.extra, calendar.cycle), (2, 6, 5))
        self.assertEqual((calendar.long_years, calendar.week, calendar.day), ((1, 4), 8, 9))
        self.assertIsInstance(calendar.months, tuple)
        self.assertIsInstance(calendar.long_years, tuple)

    def test_number_of_months(self):
        self.assertEqual(self.valid((1,)).months, (1,))
        self.assertEqual(self.valid((2,) * 12).months, (2,) * 12)
        self.refused(())
        self.refused((2,) * 13)
        self.refused((2,) * 1000)

    def test_lengths_of_months(self):
        self.valid((1, 40))
        for months in ((0,), (41,), (3, 0), (40, 41, 40), (3, -1), (10 ** 70,), (5, 5, -10 ** 70)):
            self.refused(months)

    def test_long_month(self):
        for number in (1, 2, 3):
            self.valid((5, 5, 5), long_month=number)
        for number in (0, 4, -1, 10 ** 70, -10 ** 70):
            self.refused((5, 5, 5), long_month=number)
        self.refused((5,), long_month=2)
        self.valid((5,) * 12, long_month=12)

    def test_extra(self):
        self.valid((5,), extra=0)
        self.valid((5,), extra=10)
        self.valid((40,), extra=10)
        for extra in (-1, 11, 10 ** 70, -10 ** 70):
            self.refused((5,), extra=extra)

    def test_cycle(self):
        self.valid((5,), cycle=1)
        self.valid((5,), cycle=400)
        for cycle in (0, 401, -1, 10 ** 70, -10 ** 70):
            self.refused((5,), cycle=cycle)
        self.refused((5,), cycle=0, long_years=())

    def test_long_years(self):
        self.valid((5,), cycle=4, long_years=())
        self.valid((5,), cycle=4, long_years=(0,))
        self.valid((5,), cycle=4, long_years=(3,))
        self.valid((5,), cycle=4, long_years=(0, 1, 2, 3))
        self.valid((5,), cycle=400, long_years=tuple(range(400)))
        self.valid((5,), cycle=1, long_years=(0,))
        for years in ((-1,), (4,), (0, 4), (-1, 0), (1, 1), (2, 1), (0, 2, 1), (0, 1, 1), (3, 0), (10 ** 70,)):
            self.refused((5,), cycle=4, long_years=years)
        self.refused((5,), long_years=(1,))
        self.refused((5,), cycle=400, long_years=tuple(range(401)))

    def test_week(self):
        self.valid((5,), week=1)
        self.valid((5,), week=10)
        for week in (0, 11, -7, 10 ** 70):
            self.refused((5,), week=week)

    def test_day(self):
        self.valid((5,), day=1)
        self.valid((5,), day=1440)
        for day in (0, 1441, -1, 10 ** 70):
            self.refused((5,), day=day)

    def test_all_but_the_months_are_passed_by_keyword(self):
        with self.assertRaises(TypeError):
            Calendar((5,), 1)


class CountTest(unittest.TestCase):
    """Points 1.2 to 1.4, for each day of two cycles and for far ones."""

    def test_is_long(self):
        for calendar in ALL:
            for year in range(2 * calendar.cycle + 1):
                self.assertIs(calendar.is_long(year), year % calendar.cycle in calendar.long_years)
                self.assertIs(calendar.is_long(year + calendar.cycle * FAR), calendar.is_long(year))

    def test_a_year_is_long_also_if_nothing_is_added(self):
        self.assertIs(NO_EXTRA.is_long(1), True)
        self.assertIs(NO_EXTRA.is_long(0), False)

    def test_lengths(self):
        for calendar in ALL:
            months = range(1, len(calendar.months) + 1)
            for year in range(2 * calendar.cycle + 1):
                lengths = [plain_length(calendar, year, month) for month in months]
                self.assertEqual([calendar.month_length(year, month) for month in months], lengths)
                self.assertEqual(calendar.year_length(year), sum(lengths))
                far = year + calendar.cycle * FAR
                self.assertEqual([calendar.month_length(far, month) for month in months], lengths)
                self.assertEqual(calendar.year_length(far), sum(lengths))

    def test_known_lengths(self):
        self.assertEqual([SMALL.year_length(year) for year in range(6)], [12, 14, 12, 12, 14, 12])
        self.assertEqual([SMALL.month_length(1, month) for month in (1, 2, 3)], [3, 7, 4])
        self.assertEqual([ALL_LONG.month_length(0, month) for month in (1, 2)], [4, 12])
        self.assertEqual(GREGORIAN.month_length(2000, 2), 29)
        self.assertEqual(GREGORIAN.month_length(1900, 2), 28)

    def test_each_day_of_two_cycles(self):
        for calendar in ALL:
            table = Table(calendar, 2 * calendar.cycle)
            for day, date in enumerate(table.dates):
                if calendar.date_of(day) != date or calendar.day_of(*date) != day:
                    self.fail((calendar.months, day, date))
                if calendar.month_index(day) != table.index(day) or calendar.weekday(day) != day % calendar.week:
                    self.fail((calendar.months, day, date))

    def test_starts(self):
        for calendar in ALL:
            table = Table(calendar, 2 * calendar.cycle)
            for index, days in enumerate(table.months):
                self.assertEqual(calendar.month_start(index), days[0])
            for year in range(table.years):
                self.assertEqual(calendar.year_start(year), table.months[year * len(calendar.months)][0])

    def test_far_days(self):
        for calendar in ALL:
            table = Table(calendar, calendar.cycle)
            days = len(table.dates)
            for day in {*range(0, days, max(1, days // 500)), days - 1}:
                year, month, number = table.dates[day]
                far = (year + FAR * calendar.cycle, month, number)
                self.assertEqual(calendar.date_of(day + FAR * days), far)
                self.assertEqual(calendar.day_of(*far), day + FAR * days)
                index = table.index(day) + FAR * calendar.cycle * len(calendar.months)
                self.assertEqual(calendar.month_index(day + FAR * days), index)
                self.assertEqual(calendar.month_start(index), table.months[table.index(day)][0] + FAR * days)
                self.assertEqual(calendar.year_start(far[0]), calendar.day_of(far[0], 1, 1))

    def test_days_of_300_digits(self):
        for calendar in ALL:
            for day in (10 ** 299, 10 ** 300 - 1):
                year, month, number = calendar.date_of(day)
                self.assertEqual(calendar.day_of(year, month, number), day)
                self.assertEqual(calendar.month_start(calendar.month_index(day)) + number - 1, day)
                self.assertEqual(calendar.month_index(day), year * len(calendar.months) + month - 1)

    def test_bounds_of_months_and_years(self):
        for calendar in ALL:
            for index in (0, 1, 2, 11, 100, FAR, FAR + 1):
                start = calendar.month_start(index)
                last = calendar.month_start(index + 1) - 1
                self.assertEqual((calendar.month_index(start), calendar.month_index(last)), (index, index))
                self.assertEqual(calendar.month_index(last + 1), index + 1)
            for year in (0, 1, 99, FAR):
                start = calendar.year_start(year)
                self.assertEqual(calendar.date_of(start), (year, 1, 1))
                self.assertEqual(calendar.date_of(start + calendar.year_length(year))[0], year + 1)
                self.assertEqual(calendar.date_of(start + calendar.year_length(year) - 1)[0], year)

    def test_weekdays(self):
        self.assertEqual([SMALL.weekday(day) for day in range(6)], [0, 1, 2, 3, 0, 1])
        self.assertEqual(SMALL.weekday(4 * FAR + 3), 3)
        self.assertEqual(LEAST.weekday(FAR), 0)


class RefusedDatesTest(unittest.TestCase):
    """There are no other dates than those of points 1.2 and 1.3."""

    def refused(self, calendar, *date):
        with self.assertRaises(InvalidDay, msg=date) as caught:
            calendar.day_of(*date)
        self.assertIs(type(caught.exception), InvalidDay)

    def test_years(self):
        for year in (-1, -5, -FAR):
            self.refused(SMALL, year, 1, 1)

    def test_months(self):
        for year in (0, 1, FAR):
            for month in (0, -1, 4, FAR, -FAR):
                self.refused(SMALL, year, month, 1)
        self.refused(TWELVE, 0, 13, 1)
        self.refused(LEAST, 0, 2, 1)

    def test_days_of_the_month(self):
        for calendar in ALL:
            for year in (*range(calendar.cycle), 5 * FAR):
                for month in range(1, len(calendar.months) + 1):
                    length = plain_length(calendar, year, month)
                    self.assertEqual(calendar.date_of(calendar.day_of(year, month, length)), (year, month, length))
                    for number in (0, -1, -length, length + 1, FAR):
                        self.refused(calendar, year, month, number)

    def test_common_and_long_years(self):
        self.refused(GREGORIAN, 1900, 2, 29)
        self.refused(GREGORIAN, 2000, 2, 30)
        self.assertEqual(GREGORIAN.date_of(GREGORIAN.day_of(2000, 2, 29)), (2000, 2, 29))
        self.refused(RARE, 398, 3, 8)
        self.assertEqual(RARE.date_of(RARE.day_of(399, 3, 11)), (399, 3, 11))


class RepeatTest(unittest.TestCase):
    """Point 1.4: after the cycle days and after the repeat days the same comes again."""

    def test_cycle_days(self):
        for calendar in ALL:
            days = len(Table(calendar, calendar.cycle).dates)
            self.assertEqual(calendar.cycle_days(), days)
            self.assertEqual(calendar.repeat_days(), lcm(days, calendar.week))

    def test_known_ones(self):
        self.assertEqual((SMALL.cycle_days(), SMALL.repeat_days()), (64, 64))
        self.assertEqual((ALL_LONG.cycle_days(), ALL_LONG.repeat_days()), (48, 240))
        self.assertEqual((GREGORIAN.cycle_days(), GREGORIAN.repeat_days()), (146097, 146097))
        self.assertEqual((LEAST.cycle_days(), LEAST.repeat_days()), (1, 1))
        self.assertEqual((RARE.cycle_days(), RARE.repeat_days()), (8404, 42020))

    def test_the_same_comes_again(self):
        for calendar in SHORT:
            cycle, repeat = calendar.cycle_days(), calendar.repeat_days()
            for day in range(cycle):
                year, month, number = calendar.date_of(day)
                for turns in (1, 2, 1000, FAR):
                    again = (year + turns * calendar.cycle, month, number)
                    self.assertEqual(calendar.date_of(day + turns * cycle), again)
                    later = day + turns * repeat
                    self.assertEqual(calendar.date_of(later)[1:], (month, number))
                    self.assertEqual(calendar.weekday(later), calendar.weekday(day))
