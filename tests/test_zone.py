"""Points 2.1 to 2.3: zones, held against a plain reading of the points."""

import unittest

from dayspread.almanac import Calendar
from dayspread.errors import DayspreadError, InvalidZone
from dayspread.zone import Zone
from tests.plain import Table
from tests.samples import ALL_LONG, FAR, GREGORIAN, NO_EXTRA, ONE_MONTH, SMALL
from tests.zone_samples import AUTUMN, SPRING, small_zones


def described(zone):
    return zone.offset, zone.shift, zone.on, zone.off


class ValuesTest(unittest.TestCase):
    """Point 2.1."""

    def valid(self, calendar, offset, **more):
        zone = Zone(calendar, offset, **more)
        self.assertIs(zone.calendar, calendar)
        self.assertEqual(zone.offset, offset)
        for name, value in more.items():
            self.assertEqual(getattr(zone, name), value)

    def refused(self, calendar, offset, **more):
        with self.assertRaises(InvalidZone, msg=(offset, more)) as caught:
            Zone(calendar, offset, **more)
        self.assertIs(type(caught.exception), InvalidZone)

    def moments(self, on, off, expected, calendar=SMALL):
        check = self.valid if expected else self.refused
        check(calendar, 0, shift=1, on=on, off=off)
        check(calendar, 0, shift=1, on=off, off=on)

    def test_the_error_is_of_the_base_and_a_value_error(self):
        self.assertTrue(issubclass(InvalidZone, DayspreadError))
        self.assertTrue(issubclass(InvalidZone, ValueError))

    def test_defaults(self):
        zone = Zone(SMALL, 2)
        self.assertEqual((zone.calendar, zone.offset, zone.shift, zone.on, zone.off), (SMALL, 2, 0, None, None))

    def test_offset(self):
        for offset in (-6, -5, 0, 5, 6):
            self.valid(SMALL, offset)
            self.valid(SMALL, offset, shift=2, on=SPRING, off=AUTUMN)
        for offset in (-7, 7, FAR, -FAR):
            self.refused(SMALL, offset)
            self.refused(SMALL, offset, shift=2, on=SPRING, off=AUTUMN)
        self.valid(GREGORIAN, 1440)
        self.refused(GREGORIAN, -1441)

    def test_shift(self):
        for shift in (1, 2, 6):
            self.valid(SMALL, 0, shift=shift, on=SPRING, off=AUTUMN)
        for shift in (-1, 7, FAR, -FAR):
            self.refused(SMALL, 0, shift=shift, on=SPRING, off=AUTUMN)
            self.refused(SMALL, 0, shift=shift)

    def test_shift_and_moments_come_together(self):
        self.refused(SMALL, 0, shift=1)
        self.refused(SMALL, 0, shift=1, on=SPRING)
        self.refused(SMALL, 0, shift=1, off=SPRING)
        self.refused(SMALL, 0, on=SPRING, off=AUTUMN)
        self.refused(SMALL, 0, on=SPRING)
        self.refused(SMALL, 0, off=AUTUMN)
        self.refused(SMALL, 0, shift=0, on=SPRING, off=AUTUMN)
        self.valid(SMALL, 0, shift=0, on=None, off=None)

    def test_months(self):
        for month, expected in ((0, False), (1, True), (2, True), (3, False), (4, False), (-1, False), (FAR, False)):
            self.moments((month, ("day", 1), 0), AUTUMN, expected)

    def test_both_moments_in_one_month(self):
        for month in (1, 2, 3):
            self.moments((month, ("day", 1), 0), (month, ("back", 1), 5), False)
        self.moments(SPRING, SPRING, False)
        self.refused(ONE_MONTH, 0, shift=1, on=(1, ("day", 1), 0), off=(1, ("day", 3), 0))

    def test_unit(self):
        for unit, expected in ((-1, False), (0, True), (5, True), (6, False), (FAR, False)):
            self.moments((1, ("day", 1), unit), AUTUMN, expected)

    def test_a_place_has_its_day_in_every_year(self):
        # Month 2 has 5 days in a common year and 7 in a long one; a week has 4 days.
        for place, expected in ((("day", 5), True), (("day", 6), False), (("back", 5), True), (("back", 6), False),
                                (("day", 7), False), (("weekday", 1, 3), True), (("weekday", 2, 0), False),
                                (("weekback", 1, 0), True), (("weekback", 2, 3), False)):
            self.moments((2, place, 0), AUTUMN, expected)
        for place, expected in ((("day", 4), True), (("day", 5), False), (("weekday", 1, 3), True),
                                (("weekday", 2, 3), False), (("weekback", 1, 0), True)):
            self.moments((3, place, 0), SPRING, expected)
        for place, expected in ((("day", 3), True), (("back", 4), False), (("weekday", 1, 0), False),
                                (("weekback", 1, 0), False)):
            self.moments((1, place, 0), AUTUMN, expected)

    def test_whole_weeks(self):
        other = (2, ("day", 1), 0)
        for place, expected in ((("weekday", 1, 6), True), (("weekback", 1, 0), True), (("weekday", 2, 6), False)):
            self.moments((1, place, 0), other, expected, NO_EXTRA)
        thirty = Calendar((30, 31))
        for number, expected in ((4, True), (5, False)):
            self.moments((1, ("weekday", number, 0), 0), other, expected, thirty)
            self.moments((1, ("weekback", number, 6), 0), other, expected, thirty)

    def test_what_is_no_place(self):
        for place in ((), ("day",), ("day", 0), ("back", -1), ("day", 1, 1), ("weekday", 1), ("weekday", 1, 4),
                      ("weekback", 1, -1), ("weekday", 0, 1), (1, "day"), ("Day", 1), ("day", "1"), (1, 1, 1),
                      ("weekday", "1", 1), ("day", FAR), ("day", 61), ("weekday", 1, 1, 1)):
            self.moments((2, place, 0), AUTUMN, False)

    def test_the_rest_is_passed_by_keyword(self):
        with self.assertRaises(TypeError):
            Zone(SMALL, 0, 1)


class SummerTest(unittest.TestCase):
    """Points 2.2 and 2.3, for every instant of more than one cycle."""

    def test_each_instant(self):
        table = Table(SMALL, 8)
        for zone in small_zones():
            for instant in range(450):
                summer = table.is_summer(zone, instant)
                if zone.is_summer(instant) is not summer or zone.local(instant) != table.local(zone, instant):
                    self.fail((described(zone), instant))

    def test_far_instants(self):
        table = Table(SMALL, 8)
        far = FAR * SMALL.repeat_days() * SMALL.day
        for zone in small_zones():
            for instant in range(6, 400):
                if zone.is_summer(instant + far) is not table.is_summer(zone, instant):
                    self.fail((described(zone), instant))
                if zone.local(instant + far) != table.local(zone, instant) + far:
                    self.fail((described(zone), instant))

    def test_another_calendar_around_its_moments(self):
        table = Table(ALL_LONG, 12)
        on, off = (2, ("weekback", 1, 3), 9), (1, ("day", 4), 0)
        for first, second in ((on, off), (off, on)):
            for offset in (-10, 3, 10):
                zone = Zone(ALL_LONG, offset, shift=2, on=first, off=second)
                for year in range(11):
                    for moment in (on, off):
                        switch = table.switch(year, moment) - offset
                        for instant in range(max(0, switch - 3), max(0, switch + 4)):
                            self.assertIs(zone.is_summer(instant), table.is_summer(zone, instant))
                            self.assertEqual(zone.local(instant), table.local(zone, instant))

    def test_below_the_first_year(self):
        north = Zone(SMALL, -6, shift=1, on=SPRING, off=AUTUMN)
        south = Zone(SMALL, -6, shift=1, on=AUTUMN, off=SPRING)
        self.assertEqual([north.is_summer(instant) for instant in range(6)], [False] * 6)
        self.assertEqual([south.is_summer(instant) for instant in range(6)], [True] * 6)
        self.assertEqual([north.local(instant) for instant in range(6)], list(range(-6, 0)))
        self.assertEqual([south.local(instant) for instant in range(6)], list(range(-5, 1)))

    def test_a_known_zone(self):
        zone = Zone(GREGORIAN, 60, shift=60, on=(3, ("weekback", 1, 0), 120), off=(10, ("weekback", 1, 0), 120))
        day = GREGORIAN.day_of(2000, 3, 31)
        day -= day % 7
        switch = day * 1440 + 120 - 60
        self.assertEqual([zone.is_summer(switch - 1), zone.is_summer(switch)], [False, True])
        self.assertEqual([zone.local(switch - 1), zone.local(switch)], [day * 1440 + 119, day * 1440 + 180])
        self.assertEqual(zone.instant(day * 1440 + 119), switch - 1)
        for skipped in (120, 150, 180):
            self.assertEqual(zone.instant(day * 1440 + skipped), switch)
        self.assertEqual(zone.instant(day * 1440 + 181), switch + 1)
        back = GREGORIAN.day_of(2000, 10, 31)
        back -= back % 7
        # The local times of this day from 120 to 179 units come twice.
        for unit in (120, 121, 179):
            self.assertEqual(zone.instant(back * 1440 + unit), back * 1440 + unit - 120)
        self.assertEqual(zone.instant(back * 1440 + 180), back * 1440 + 180 - 60)

    def test_without_summer_time(self):
        for offset in (-6, 0, 6):
            zone = Zone(SMALL, offset)
            for instant in (0, 1, 100, FAR):
                self.assertIs(zone.is_summer(instant), False)
                self.assertEqual(zone.local(instant), instant + offset)
            for local in (12, 13, 100, FAR):
                self.assertEqual(zone.instant(local), local - offset)


class InstantTest(unittest.TestCase):
    """Point 2.3, held against a search for the first instant."""

    def test_each_local_time(self):
        table = Table(SMALL, 9)
        far = FAR * SMALL.repeat_days() * SMALL.day
        for zone in small_zones():
            locals_ = [table.local(zone, instant) for instant in range(470)]
            first = 0
            for local in range(2 * SMALL.day, 440):
                while locals_[first] < local:
                    first += 1
                if zone.instant(local) != first or zone.instant(local + far) != first + far:
                    self.fail((described(zone), local))

    def test_times_that_come_twice_and_that_are_skipped(self):
        zone = Zone(SMALL, 0, shift=3, on=(1, ("day", 3), 0), off=(3, ("day", 1), 5))
        table = Table(SMALL, 2)
        on, off = table.switch(1, zone.on), table.switch(1, zone.off)
        for local in range(on, on + 4):
            self.assertEqual(zone.instant(local), on)
        self.assertEqual(zone.instant(on + 4), on + 1)
        self.assertEqual(zone.instant(on - 1), on - 1)
        # The local times from off to off + 2 come once in summer and once again.
        for local in range(off, off + 3):
            self.assertEqual(zone.instant(local), local - 3)
            self.assertEqual(zone.local(local), local)
        self.assertEqual(zone.instant(off + 3), off + 3)

    def test_a_shift_of_a_whole_day(self):
        zone = Zone(SMALL, 6, shift=6, on=(2, ("day", 1), 0), off=(3, ("day", 1), 0))
        table = Table(SMALL, 2)
        on = table.switch(0, zone.on)
        self.assertEqual([zone.instant(local) for local in range(on, on + 8)], [on - 6] * 7 + [on - 5])
