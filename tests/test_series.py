"""Points 5.1 and 5.2: the values of a series and its occurrences."""

import unittest

from dayspread.errors import DayspreadError, InvalidRule, InvalidSeries
from dayspread.series import Series
from dayspread.zone import Zone
from tests.rule_samples import NEVER
from tests.samples import ALL_LONG, FAR, GREGORIAN, SMALL
from tests.series_samples import TABLE, ZONES, Sample, samples
from tests.zone_samples import AUTUMN, CLOCK, SPRING

PLAIN = Zone(SMALL, 0)
DAILY = (("days", 1), 10, NEVER)
SAMPLES = samples(51, 120)


class ValuesTest(unittest.TestCase):
    def valid(self, *args, **more):
        series = Series(*args, **more)
        self.assertEqual((series.zone, series.rule, series.unit, series.length), args)
        self.assertEqual((series.dropped, series.moved), (more.get("dropped", ()), more.get("moved", ())))
        return series

    def refused(self, error, *args, **more):
        with self.assertRaises(error, msg=(args, more)) as caught:
            Series(*args, **more)
        self.assertIs(type(caught.exception), error)

    def dropped(self, rule, days, expected):
        if expected:
            self.valid(PLAIN, rule, 0, 1, dropped=days)
        else:
            self.refused(InvalidSeries, PLAIN, rule, 0, 1, dropped=days)
        rows = tuple((day, 5, 2) for day in days)
        if expected:
            self.valid(PLAIN, rule, 0, 1, moved=rows)
        else:
            self.refused(InvalidSeries, PLAIN, rule, 0, 1, moved=rows)

    def test_the_errors_are_of_the_base_and_value_errors(self):
        for error in (InvalidRule, InvalidSeries):
            self.assertTrue(issubclass(error, DayspreadError))
            self.assertTrue(issubclass(error, ValueError))

    def test_rules(self):
        for rule in ((("days", 0), 10, NEVER), (("days", 31), 10, NEVER), (("days", 1), 1, NEVER),
                     (("weeks", 1, ()), 10, NEVER), (("weeks", 1, (4,)), 10, NEVER), (("days", 1), 10, ("count", 0)),
                     (("days", 1), 10, ("until", 9)), (("days", 1), 10, ("until", 2011)), (("hours", 1), 10, NEVER)):
            self.refused(InvalidRule, PLAIN, rule, 0, 1)
            # It is the rule that is told, whatever else is not valid.
            self.refused(InvalidRule, PLAIN, rule, 6, 0, dropped=(3, 3), moved=((1, -1, -1),))
        self.refused(InvalidRule, PLAIN, (("days", 1), 20001, ("count", 61)), 0, 1)

    def test_first_day(self):
        for first in (2, 3, 19999, 20000):
            self.valid(PLAIN, (("days", 1), first, NEVER), 0, 1)
        for first in (20001, 20002, FAR):
            self.refused(InvalidSeries, PLAIN, (("days", 1), first, NEVER), 0, 1)

    def test_unit(self):
        for unit in (0, 1, 5):
            self.valid(PLAIN, DAILY, unit, 1)
        for unit in (-1, 6, FAR, -FAR):
            self.refused(InvalidSeries, PLAIN, DAILY, unit, 1)
        self.valid(CLOCK, DAILY, 1439, 1)
        self.refused(InvalidSeries, CLOCK, DAILY, 1440, 1)

    def test_length(self):
        for length in (1, 2, 17, 18):
            self.valid(PLAIN, DAILY, 0, length)
        for length in (0, -1, 19, FAR, -FAR):
            self.refused(InvalidSeries, PLAIN, DAILY, 0, length)
        self.valid(CLOCK, DAILY, 0, 4320)
        self.refused(InvalidSeries, CLOCK, DAILY, 0, 4321)

    def test_special_days_are_days_of_the_rule(self):
        thirds = (("days", 3), 10, NEVER)
        for day, expected in ((10, True), (13, True), (3 * 666 + 10, True), (11, False), (9, False), (7, False),
                              (4, False), (0, False), (-1, False), (-2, False)):
            self.dropped(thirds, (day,), expected)
        for end, last in ((("until", 40), 40), (("until", 42), 40), (("count", 11), 40), (("until", 10), 10),
                          (("count", 1), 10)):
            rule = (("days", 3), 10, end)
            self.dropped(rule, (last,), True)
            self.dropped(rule, (last + 3,), False)
            self.dropped(rule, (last + 1,), False)
        none = (("months", 1, (("day", 8),)), 10, NEVER)
        self.dropped(none, (), True)
        self.dropped(none, (10,), False)
        months = (("months", 2, (("back", 1),)), 10, NEVER)
        self.dropped(months, tuple(TABLE.rule_days(months)[:5]), True)
        self.dropped(months, (TABLE.rule_days(months)[3] - 1,), False)

    def test_order_of_special_days(self):
        self.dropped(DAILY, (10, 11, 15), True)
        for days in ((11, 10), (10, 10), (10, 12, 11), (10, 11, 11)):
            self.dropped(DAILY, days, False)

    def test_number_of_special_days(self):
        self.dropped(DAILY, tuple(range(10, 50)), True)
        self.dropped(DAILY, tuple(range(10, 51)), False)
        self.dropped(DAILY, tuple(range(20, 100)), False)
        moved = tuple((day, 7, 1) for day in range(50, 90))
        self.valid(PLAIN, DAILY, 0, 1, dropped=tuple(range(10, 50)), moved=moved)

    def test_greatest_special_day(self):
        self.dropped(DAILY, (2009, 2010), True)
        for days in ((2011,), (10, 2011), (2012,), (FAR,)):
            self.dropped(DAILY, days, False)
        late = (("days", 1), 20000, NEVER)
        self.dropped(late, (22000,), True)
        self.dropped(late, (22001,), False)

    def test_a_day_both_dropped_and_moved(self):
        self.refused(InvalidSeries, PLAIN, DAILY, 0, 1, dropped=(12,), moved=((12, 5, 1),))
        self.refused(InvalidSeries, PLAIN, DAILY, 0, 1, dropped=(11, 12), moved=((10, 5, 1), (12, 5, 1)))
        self.valid(PLAIN, DAILY, 0, 1, dropped=(11, 13), moved=((10, 5, 1), (12, 5, 1)))

    def test_moved_starts(self):
        for start in (0, 1, 4010 * 6 - 1, 4010 * 6):
            self.valid(PLAIN, DAILY, 0, 1, moved=((12, start, 1),))
        for start in (-1, 4010 * 6 + 1, FAR, -FAR):
            self.refused(InvalidSeries, PLAIN, DAILY, 0, 1, moved=((12, start, 1),))
            self.refused(InvalidSeries, PLAIN, DAILY, 0, 1, moved=((11, 5, 1), (12, start, 1)))

    def test_moved_lengths(self):
        for length in (1, 18):
            self.valid(PLAIN, DAILY, 0, 1, moved=((12, 5, length),))
        for length in (0, -1, 19, FAR):
            self.refused(InvalidSeries, PLAIN, DAILY, 0, 1, moved=((12, 5, length),))

    def test_moved_rows_that_are_no_triples(self):
        for row in ((), (12,), (12, 5), (12, 5, 1, 1)):
            self.refused(InvalidSeries, PLAIN, DAILY, 0, 1, moved=(row,))

    def test_defaults_and_keywords(self):
        self.valid(PLAIN, DAILY, 3, 4)
        with self.assertRaises(TypeError):
            Series(PLAIN, DAILY, 3, 4, ())


class OccurrencesTest(unittest.TestCase):
    def test_each_day(self):
        for sample in SAMPLES:
            series = sample.series()
            known = {day: (start, end) for start, end, day in sample.rows}
            for day in range(130):
                self.assertEqual(series.occurrence(day), known.get(day), (sample, day))
            for day in (-1, -10, -FAR):
                self.assertIsNone(series.occurrence(day))

    def test_each_instant(self):
        for sample in SAMPLES:
            series = sample.series()
            for instant in range(330):
                self.assertIs(series.covers(instant), instant in sample.counts, (sample, instant))

    def test_bounds(self):
        for sample in SAMPLES:
            series = sample.series()
            for start in (0, 1, 12, 50, 77, 200, 433, 590):
                for length in (0, 1, 2, 6, 19, 100):
                    found = series.occurrences(start, start + length)
                    self.assertEqual(found, sample.within(start, start + length), (sample, start, length))
                    self.assertIs(type(found), tuple)
            self.assertEqual(series.occurrences(0, 3000), sample.within(0, 3000))

    def test_far_days_and_instants(self):
        for sample in SAMPLES:
            series = sample.series()
            s, p = sample.settled()
            if p == 1:
                self.assertEqual((series.occurrence(FAR), series.covers(FAR), series.occurrences(FAR, FAR + 10 ** 6)),
                                 (None, False, ()))
                continue
            turns = FAR // p
            near = sample.within(s + p, s + p + 90)
            far = tuple((start + turns * p, end + turns * p, day + turns * p // 6) for start, end, day in near)
            self.assertEqual(series.occurrences(s + p + turns * p, s + p + 90 + turns * p), far, sample)
            for start, end, day in far:
                self.assertEqual(series.occurrence(day), (start, end))
                self.assertTrue(series.covers(start) and series.covers(end - 1))
            for instant in range(s + p, s + p + 60):
                self.assertIs(series.covers(instant + turns * p), instant in sample.counts)

    def test_around_each_moved_occurrence(self):
        moved = ((10, 0, 1), (11, 24060, 18), (12, 500, 3), (13, 500, 3), (15, 66, 6))
        for zone in ZONES:
            series = Series(zone, DAILY, 2, 1, dropped=(16, 19), moved=moved)
            self.assertEqual([series.occurrence(day) for day in (10, 11, 12, 13, 15)],
                             [(0, 1), (24060, 24078), (500, 503), (500, 503), (66, 72)])
            self.assertEqual([series.occurrence(day) for day in (16, 19)], [None, None])
            self.assertEqual(series.occurrences(0, 1), ((0, 1, 10),))
            self.assertIn((24060, 24078, 11), series.occurrences(24077, 24078))
            self.assertNotIn((24060, 24078, 11), series.occurrences(24078, 24079))
            self.assertNotIn((24060, 24078, 11), series.occurrences(24059, 24060))
            self.assertEqual([row for row in series.occurrences(500, 501) if row[2] < 20],
                             [(500, 503, 12), (500, 503, 13)])

    def test_skipped_and_double_times(self):
        zone = Zone(SMALL, 0, shift=4, on=SPRING, off=AUTUMN)
        series = Series(zone, (("days", 1), 2, NEVER), 4, 2)
        # On day 13 the clock goes on from local time 80 to 85; the local time 82 is skipped.
        self.assertEqual(TABLE.switch(1, SPRING), 81)
        self.assertEqual([series.occurrence(day) for day in (12, 13, 14)], [(76, 78), (81, 83), (84, 86)])
        # On day 25 the clock goes back from local time 155 to 152; the local time 154 comes at 150 and at 154.
        self.assertEqual(TABLE.switch(1, AUTUMN), 152)
        self.assertEqual([series.occurrence(day) for day in (24, 25, 26)], [(144, 146), (150, 152), (160, 162)])

    def test_lengths_of_three_days(self):
        for zone in ZONES:
            sample = Sample(zone, (("weeks", 1, (0, 3)), 5, NEVER), 5, 18)
            series = sample.series()
            for instant in range(0, 800):
                self.assertIs(series.covers(instant), instant in sample.counts)
                self.assertEqual(series.occurrences(instant, instant + 1), sample.within(instant, instant + 1))

    def test_a_calendar_of_every_day(self):
        series = Series(CLOCK, (("weeks", 1, (1, 3)), 100, NEVER), 540, 60)
        for year in (1, 2000, 2001, 10 ** 60):
            for month in (1, 3, 4, 7, 10, 11):
                start = GREGORIAN.day_of(year, month, 1)
                for day in range(start, start + 28):
                    expected = None
                    if day % 7 in (1, 3):
                        instant = CLOCK.instant(day * 1440 + 540)
                        expected = (instant, instant + 60)
                        self.assertEqual(instant, day * 1440 + (420 if CLOCK.is_summer(instant) else 480))
                        self.assertEqual(series.occurrences(instant + 59, instant + 60), ((*expected, day),))
                        self.assertEqual(series.occurrences(instant + 60, instant + 1000), ())
                    self.assertEqual(series.occurrence(day), expected)

    def test_bounds_a_million_apart(self):
        leaps = Series(CLOCK, (("years", 1, 2, (("day", 29),)), 100, NEVER), 0, 4320)
        start = FAR * 146097 * 1440
        rows = leaps.occurrences(start, start + 10 ** 6)
        leap = start + 59 * 1440 - 60
        self.assertEqual(rows, ((leap, leap + 4320, FAR * 146097 + 59),))
        short = Zone(ALL_LONG, 3)
        daily = Series(short, (("days", 1), 2, NEVER), 9, 30)
        rows = daily.occurrences(FAR, FAR + 10 ** 6)
        self.assertEqual(len(rows), 10 ** 5 + 3)
        self.assertTrue(all(end > FAR and start < FAR + 10 ** 6 and start == day * 10 + 6 for start, end, day in rows))
