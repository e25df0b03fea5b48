"""Points 4.5 and 4.6: summers and weekly hours, held against a plain reading of points 2.2 and 4.6."""

import random
import unittest

from dayspread.errors import DayspreadError, InvalidNeed
from dayspread.hours import summer, weekly_hours
from dayspread.spans import Spans
from dayspread.zone import Zone
from tests.plain import Table, normal_form, values
from tests.samples import ALL_LONG, FAR, GREGORIAN, LEAST, SMALL
from tests.span_samples import ALL, NOTHING
from tests.zone_samples import AUTUMN, CLOCK, SOUTH, SPRING, other_zones, small_zones


def lies_in_hours(calendar, rows, local):
    """True if a local time lies in the hours of one of the rows."""
    weekday, unit = local // calendar.day % calendar.week, local % calendar.day
    return any(weekday == row[0] and row[1] <= unit < row[2] for row in rows)


def some_rows(source, calendar, many):
    rows = []
    for _ in range(many):
        start = source.randrange(calendar.day)
        rows.append((source.randrange(calendar.week), start, source.randint(start + 1, calendar.day)))
    return tuple(rows)


class SummerTest(unittest.TestCase):
    """Point 4.5."""

    def held(self, zone, table, instants):
        """Holds the summer against the table; far instants are held against those after whole repetitions."""
        found = summer(zone)
        self.assertIs(type(found), Spans)
        far = FAR * zone.calendar.repeat_days() * zone.calendar.day
        for instant in instants:
            expected = table.is_summer(zone, instant)
            if (instant in found) is not expected:
                self.fail((zone.offset, zone.shift, zone.on, zone.off, instant))
            if instant >= zone.calendar.day:
                self.assertIs(instant + far in found, expected)
        return found

    def test_without_summer_time(self):
        for offset in (-6, 0, 6):
            self.assertEqual(values(summer(Zone(SMALL, offset))), NOTHING)

    def test_each_instant(self):
        table = Table(SMALL, 14)
        for zone in small_zones():
            self.held(zone, table, range(820))

    def test_another_calendar(self):
        table = Table(ALL_LONG, 31)
        for zone in other_zones():
            self.held(zone, table, range(4000))

    def test_normal_form(self):
        table = Table(SMALL, 14)
        for zone in small_zones()[5::7]:
            expected = normal_form(lambda t: table.is_summer(zone, t), 6, 384)
            self.assertEqual(values(summer(zone)), expected)

    def test_ahead_of_the_first_year(self):
        # The switch of month 1 comes at standard time 9. Below 0 it is summer if the other one switches it on.
        north = summer(Zone(SMALL, -6, shift=1, on=SPRING, off=AUTUMN))
        south = summer(Zone(SMALL, -6, shift=1, on=AUTUMN, off=SPRING))
        self.assertEqual([t in north for t in range(6)], [False] * 6)
        self.assertEqual([t in south for t in range(6)], [True] * 6)
        self.assertEqual(north.first(), 6 + 6 + 3)
        self.assertEqual((~south).first(), 6 + 6 + 3)
        for offset in (-1, -2):
            early = summer(Zone(SMALL, offset, shift=1, on=AUTUMN, off=SPRING))
            self.assertEqual((early.first(), (~early).first()), (0, 9 - offset))
            # Here the clock is put back at standard time 0, and it was summer before.
            early = summer(Zone(SMALL, offset, shift=1, on=AUTUMN, off=(1, ("day", 1), 0)))
            self.assertEqual([t in early for t in range(5)], [t < -offset for t in range(5)])
        later = summer(Zone(SMALL, 6, shift=1, on=SPRING, off=AUTUMN))
        self.assertEqual(later.first(), 3)

    def test_a_calendar_of_every_day(self):
        for zone in (CLOCK, SOUTH):
            found = summer(zone)
            self.assertEqual((found.since, found.period, len(found.cycle)), (0, 146097 * 1440, 400 + (zone is SOUTH)))
            for year in (0, 1, 99, 100, 399, 400, 401, 1999, 2000, 10 ** 60):
                for month, _, _ in (zone.on, zone.off):
                    for number in (1, 8, 15, 22, 25, 31):
                        if number <= GREGORIAN.month_length(year, month):
                            start = GREGORIAN.day_of(year, month, number) * 1440 + 700
                            for instant in (start, start + 1440, start + 5000):
                                self.assertIs(instant in found, zone.is_summer(instant))
        back = GREGORIAN.day_of(2000, 10, 31) // 7 * 7 * 1440 + 60
        self.assertEqual([t in summer(CLOCK) for t in (back - 1, back)], [True, False])


class RowsTest(unittest.TestCase):
    """Point 4.6: which rows are refused."""

    def refused(self, rows, zone=None):
        with self.assertRaises(InvalidNeed, msg=rows) as caught:
            weekly_hours(zone or Zone(SMALL, 0), rows)
        self.assertIs(type(caught.exception), InvalidNeed)

    def test_the_error_is_of_the_base_and_a_value_error(self):
        self.assertTrue(issubclass(InvalidNeed, DayspreadError))
        self.assertTrue(issubclass(InvalidNeed, ValueError))

    def test_weekdays(self):
        for weekday in (0, 3):
            self.assertFalse(weekly_hours(Zone(SMALL, 0), ((weekday, 1, 2),)).is_empty())
        for weekday in (-1, 4, FAR, -FAR):
            self.refused(((weekday, 1, 2),))
            self.refused(((0, 0, 6), (weekday, 1, 2)))
            self.refused(((weekday, 1, 2), (0, 0, 6)), Zone(SMALL, 2, shift=1, on=SPRING, off=AUTUMN))
        weekly_hours(Zone(LEAST, 0), ((0, 0, 1),))
        self.refused(((1, 0, 1),), Zone(LEAST, 0))

    def test_parts_of_a_day(self):
        for start, stop in ((0, 1), (0, 6), (5, 6), (2, 4)):
            hours = weekly_hours(Zone(SMALL, 0), ((1, start, stop),))
            self.assertEqual(values(hours), ((), 0, 24, ((6 + start, 6 + stop),)))
        for start, stop in ((-1, 3), (0, 7), (5, 7), (6, 7), (3, 3), (4, 3), (0, 0), (6, 6), (-3, -1), (0, FAR)):
            self.refused(((1, start, stop),))
            self.refused(((1, 0, 6), (1, start, stop)))

    def test_lengths_of_rows(self):
        for row in ((), (1,), (1, 2), (1, 2, 3, 4)):
            self.refused((row,))

    def test_number_of_rows(self):
        rows = tuple((k % 4, k % 5, k % 5 + 1) for k in range(40))
        self.assertEqual(values(weekly_hours(Zone(SMALL, 0), rows)), ((), 0, 6, ((0, 5),)))
        self.refused((*rows, (0, 0, 1)))
        self.refused(((0, 0, 1),) * 41)
        self.assertEqual(values(weekly_hours(Zone(SMALL, 0), ((0, 0, 1),) * 40)), ((), 0, 24, ((0, 1),)))

    def test_no_rows(self):
        for zone in (Zone(SMALL, -6), Zone(SMALL, 2, shift=4, on=AUTUMN, off=SPRING), CLOCK):
            self.assertEqual(values(weekly_hours(zone, ())), NOTHING)


class WeeklyHoursTest(unittest.TestCase):
    """Point 4.6: which instants lie in the hours."""

    def held(self, zone, table, rows, instants):
        found = weekly_hours(zone, rows)
        self.assertIs(type(found), Spans)
        calendar = zone.calendar
        far = FAR * calendar.repeat_days() * calendar.day
        for instant in instants:
            expected = lies_in_hours(calendar, rows, table.local(zone, instant))
            if (instant in found) is not expected:
                self.fail((zone.offset, zone.shift, zone.on, zone.off, rows, instant))
            if instant >= calendar.day:
                self.assertIs(instant + far in found, expected)

    def test_each_instant(self):
        table = Table(SMALL, 14)
        source = random.Random(46)
        for zone in small_zones():
            for many in (1, 5):
                self.held(zone, table, some_rows(source, SMALL, many), range(500))

    def test_the_whole_week(self):
        rows = tuple((weekday, 0, 6) for weekday in range(4))
        for zone in small_zones()[::9]:
            self.assertEqual(values(weekly_hours(zone, rows)), ALL)

    def test_another_calendar(self):
        table = Table(ALL_LONG, 31)
        source = random.Random(47)
        for zone in other_zones():
            self.held(zone, table, some_rows(source, ALL_LONG, 4), range(4000))

    def test_normal_form(self):
        table = Table(SMALL, 14)
        rows = ((0, 1, 3), (2, 0, 6), (3, 5, 6))
        for zone in small_zones()[::11]:
            expected = normal_form(lambda t: lies_in_hours(SMALL, rows, table.local(zone, t)), 6, 384)
            self.assertEqual(values(weekly_hours(zone, rows)), expected)

    def test_ahead_of_the_first_year(self):
        # The standard times from -6 to -1 belong to a day of weekday 3.
        for start in range(6):
            hours = weekly_hours(Zone(SMALL, -6), ((3, start, start + 1),))
            self.assertEqual([t for t in range(30) if t in hours], [start, start + 24])
        hours = weekly_hours(Zone(SMALL, -2, shift=1, on=AUTUMN, off=SPRING), ((3, 5, 6), (0, 0, 2)))
        self.assertEqual([t for t in range(8) if t in hours], [0, 1, 2])

    def test_a_calendar_of_every_day(self):
        rows = tuple((weekday, 540, 1020) for weekday in range(1, 6)) + ((0, 100, 200),)
        for zone in (CLOCK, SOUTH):
            hours = weekly_hours(zone, rows)
            for year in (0, 1, 100, 399, 400, 2000, 2001, 10 ** 60):
                for month, _, _ in (zone.on, zone.off):
                    start = GREGORIAN.day_of(year, month, 1) * 1440
                    for instant in range(start, start + 32 * 1440, 47):
                        self.assertIs(instant in hours, lies_in_hours(GREGORIAN, rows, zone.local(instant)))
            plain = weekly_hours(Zone(GREGORIAN, zone.offset), rows)
            self.assertEqual(plain.period, 7 * 1440)
            self.assertEqual(hours.differs(plain), (hours - plain | plain - hours).first())
