"""Points 5.3 and 5.4: what is asked of a series as a whole."""

import time
import unittest

from dayspread.series import Series
from dayspread.spans import Spans
from dayspread.zone import Zone
from tests.plain import Table, normal_form, plain_repeat_days, plain_settled, tidy, values
from tests.rule_samples import NEVER, PLACES, patterns
from tests.samples import ALL_LONG, GREGORIAN, NO_EXTRA, ONE_MONTH_LONG_CYCLE, SMALL, TWELVE
from tests.series_samples import ZONES, Sample, samples
from tests.span_samples import NOTHING
from tests.zone_samples import CLOCK, SOUTH, other_zones

SAMPLES = (*samples(53, 120), *samples(54, 60, longest=3))
DAILY = ("days", 1)


class SettledTest(unittest.TestCase):
    """Point 5.4."""

    def test_samples(self):
        for sample in SAMPLES:
            found = sample.series().settled()
            self.assertEqual(found, sample.settled(), sample)
            self.assertIs(type(found), tuple)

    def test_the_words_for_each_pattern(self):
        for calendar in (SMALL, ALL_LONG, NO_EXTRA, TWELVE, ONE_MONTH_LONG_CYCLE):
            zones = [Zone(calendar, 0)]
            if len(calendar.months) > 1:
                zones.append(Zone(calendar, 1, shift=1, on=(1, ("day", 1), 0), off=(2, ("back", 1), 0)))
            for zone in zones:
                for pattern in patterns(calendar, (1, 2, 5, 6, 12, 30)):
                    rule = (pattern, 7, NEVER)
                    found = Series(zone, rule, 0, 1).settled()
                    self.assertEqual(found, (15 * calendar.day, calendar.day * plain_repeat_days(zone, rule)), rule)

    def test_known_numbers(self):
        plain = Zone(GREGORIAN, 0)
        for zone, pattern, days in ((plain, ("days", 30), 30), (plain, ("weeks", 3, (1, 2)), 21),
                                    (CLOCK, ("days", 2), 2 * 146097), (CLOCK, ("weeks", 2, (0,)), 2 * 146097),
                                    (CLOCK, ("days", 1), 146097), (plain, ("months", 1, (("day", 1),)), 146097),
                                    (plain, ("months", 12, (("day", 1),)), 146097),
                                    (plain, ("months", 7, (("day", 1),)), 7 * 146097),
                                    (CLOCK, ("months", 14, (("day", 1),)), 7 * 146097),
                                    (plain, ("years", 4, 2, (("day", 29),)), 146097),
                                    (plain, ("years", 12, 2, (("day", 29),)), 3 * 146097)):
            self.assertEqual(Series(zone, (pattern, 20, NEVER), 0, 1).settled(), (28 * 1440, days * 1440))

    def test_special_days_and_ends(self):
        zone = Zone(SMALL, 0)
        for dropped, moved, s in (((), (), 108), ((10, 60), (), 408), ((60,), ((61, 3, 2),), 414),
                                  ((61,), ((60, 413, 1),), 414), ((61,), ((60, 413, 2),), 415),
                                  ((), ((10, 0, 1), (11, 24060, 18)), 24078), ((), ((10, 90, 18), (11, 0, 1)), 114)):
            series = Series(zone, (DAILY, 10, NEVER), 0, 1, dropped=dropped, moved=moved)
            self.assertEqual(series.settled(), (s, 6), (dropped, moved))
        for end, dropped, moved, s in ((("until", 10), (), (), 108), (("until", 50), (), (), 348),
                                       (("count", 41), (), (), 348), (("count", 41), (50,), (), 348),
                                       (("count", 41), (), ((50, 3, 1),), 348),
                                       (("until", 50), (), ((11, 340, 9),), 349),
                                       (("count", 1), (), ((10, 0, 1),), 108)):
            series = Series(zone, (DAILY, 10, end), 0, 1, dropped=dropped, moved=moved)
            self.assertEqual(series.settled(), (s, 1), (end, dropped, moved))
        # The last day is that of the rule; a rule without days has the last day 0.
        thirds = Series(zone, (("days", 3), 10, ("until", 51)), 0, 1)
        self.assertEqual(thirds.settled(), ((49 + 8) * 6, 1))
        for end in (("until", 2010), ("count", 60)):
            none = Series(zone, (("months", 1, (("day", 8),)), 10, end), 0, 1)
            self.assertEqual(none.settled(), (108, 1))
        never = Series(zone, (("months", 1, (("day", 8),)), 10, NEVER), 0, 1)
        self.assertEqual(never.settled(), (108, 384))

    def test_the_covered_instants_come_again(self):
        for sample in SAMPLES:
            series = sample.series()
            s, p = series.settled()
            for instant in range(s, s + min(p, 400)):
                self.assertIs(series.covers(instant), instant + p in sample.counts, (sample, instant))
                self.assertIs(series.covers(instant + p), instant in sample.counts)


class SpansTest(unittest.TestCase):
    """Point 5.4: the span set of all instants in occurrences."""

    def test_each_instant(self):
        for sample in SAMPLES:
            series = sample.series()
            s, p = sample.settled()
            spans = series.spans()
            self.assertIs(type(spans), Spans)
            self.assertEqual(spans.parts(0, s + 2 * p), tidy(t for t in sample.counts if t < s + 2 * p), sample)
            self.assertEqual(p % spans.period, 0)
            self.assertTrue(spans.since <= s)
            for instant in (*range(200), s, s + p, 10 ** 60, 10 ** 60 + 5):
                self.assertIs(instant in spans, series.covers(instant))

    def test_normal_form(self):
        for sample in SAMPLES[::3]:
            s, p = sample.settled()
            expected = normal_form(lambda t: t in sample.counts, s, p)
            self.assertEqual(values(sample.series().spans()), expected, sample)
        never = Series(ZONES[0], (("months", 1, (("day", 8),)), 10, NEVER), 0, 1)
        self.assertEqual(values(never.spans()), NOTHING)

    def test_another_calendar(self):
        table = Table(ALL_LONG, 40)
        for zone in other_zones():
            for pattern in (DAILY, ("weeks", 1, (0, 3)), ("months", 1, (("back", 1),))):
                rule = (pattern, 7, NEVER)
                series = Series(zone, rule, 7, 4)
                self.assertEqual(series.settled(), plain_settled(table, zone, rule, (), ()))
                spans = series.spans()
                for instant in range(0, 2600, 3):
                    self.assertIs(instant in spans, series.covers(instant))

    def test_of_every_day(self):
        for zone in (CLOCK, SOUTH):
            spans = Series(zone, (DAILY, 20000, NEVER), 125, 60).spans()
            self.assertEqual((spans.period, len(spans.cycle)), (146097 * 1440, 146097))
            for year in (400, 1999, 2000, 10 ** 60):
                for month, _, _ in (zone.on, zone.off):
                    start = GREGORIAN.day_of(year, month, 1)
                    for day in range(start, start + 31):
                        instant = zone.instant(day * 1440 + 125)
                        self.assertEqual(spans.parts(instant - 600, instant + 600), ((instant, instant + 60),))


class SelfClashTest(unittest.TestCase):
    """Point 5.3."""

    def test_samples(self):
        found = []
        for sample in SAMPLES:
            s, p = sample.settled()
            shared = [t for t in range(s + 2 * p) if sample.counts.get(t, 0) > 1]
            expected = shared[0] if shared else None
            self.assertEqual(sample.series().self_clash(), expected, sample)
            found.append(expected)
        # The samples are of all kinds.
        self.assertTrue(found.count(None) > 40 and len(found) - found.count(None) > 20, found)

    def test_lengths(self):
        zone = Zone(SMALL, 0)
        for every in (1, 2, 3):
            rule = (("days", every), 10, NEVER)
            for length in (1, 6 * every - 1, 6 * every):
                self.assertIsNone(Series(zone, rule, 3, length).self_clash())
            if every < 3:
                self.assertEqual(Series(zone, rule, 3, 6 * every + 1).self_clash(), (10 + every) * 6 + 3)
        self.assertIsNone(Series(zone, (DAILY, 10, ("count", 1)), 3, 18).self_clash())
        self.assertEqual(Series(zone, (DAILY, 10, ("count", 2)), 3, 7).self_clash(), 69)

    def test_moved_occurrences(self):
        zone = Zone(SMALL, 0)
        for moved, expected in ((((11, 0, 1),), None), (((11, 60, 1),), 60), (((11, 59, 1),), None),
                                (((11, 59, 2),), 60), (((11, 62, 1),), None), (((11, 61, 18),), 61),
                                (((11, 62, 11),), 72), (((11, 24060, 1),), 24060), (((11, 24059, 1),), None),
                                (((10, 5, 3), (11, 7, 1)), 7), (((10, 5, 3), (11, 5, 1)), 5),
                                (((10, 5, 3), (11, 8, 1)), None), (((10, 300, 1), (11, 0, 18), (12, 17, 1)), 17)):
            series = Series(zone, (DAILY, 10, NEVER), 0, 2, moved=moved)
            self.assertEqual(series.self_clash(), expected, moved)

    def test_two_days_at_one_moment(self):
        # The shift is a whole day, so the occurrences of two days start when the clock is switched.
        zone = Zone(SMALL, 0, shift=6, on=(1, ("day", 2), 3), off=(3, ("day", 2), 0))
        sample = Sample(zone, (DAILY, 2, NEVER), 3, 1)
        self.assertEqual(sample.series().self_clash(), min(t for t, count in sample.counts.items() if count > 1))

    def test_a_late_shared_instant(self):
        plain = Zone(GREGORIAN, 0)
        # Day 28 and the last day of month 2 are different days in long years only.
        series = Series(plain, (("years", 1, 2, (("day", 28), ("back", 1))), 366, NEVER), 0, 1441)
        day = GREGORIAN.day_of(4, 2, 29)
        self.assertEqual(series.self_clash(), day * 1440)
        # The fifth of a weekday comes in month 2 of some long years only, the day after another place.
        rule = (("years", 1, 2, (("weekday", 5, 3), ("day", 28))), 366, NEVER)
        year = next(year for year in range(2, 400) if GREGORIAN.is_long(year)
                    and GREGORIAN.day_of(year, 2, 29) % 7 == 3)
        self.assertEqual(Series(plain, rule, 5, 1441).self_clash(), GREGORIAN.day_of(year, 2, 29) * 1440 + 5)
        self.assertIsNone(Series(plain, rule, 5, 1440).self_clash())
        # An occurrence of a whole day is too long only where the clock goes on.
        daily = Series(CLOCK, (DAILY, 100, NEVER), 600, 1440)
        self.assertEqual(daily.self_clash(), CLOCK.instant((GREGORIAN.day_of(1, 3, 31) // 7 * 7) * 1440 + 600))
        self.assertIsNone(Series(CLOCK, (DAILY, 100, NEVER), 600, 1380).self_clash())


class FarTest(unittest.TestCase):
    """Great numbers s and p: no answer takes a way through all instants."""

    def setUp(self):
        self.begin = time.process_time()

    def tearDown(self):
        self.assertLess(time.process_time() - self.begin, 30)

    def test_the_latest_moved_start(self):
        plain = Zone(GREGORIAN, 0)
        latest = 24000 * 1440
        series = Series(plain, (("days", 7), 20000, NEVER), 10, 60, moved=((20000, latest, 4320),))
        self.assertEqual(series.settled(), (latest + 4320, 7 * 1440))
        spans = series.spans()
        self.assertEqual(spans.parts(latest - 5, latest + 5000)[0], (latest, latest + 4320))
        self.assertEqual(spans.first(), 20007 * 1440 + 10)
        inner = [day for day in range(24000, 24003) if (day - 20000) % 7 == 0]
        self.assertEqual(series.self_clash(), inner[0] * 1440 + 10 if inner else None)

    def test_periods_of_some_hundred_million(self):
        for pattern, many in ((("days", 4), 146097), (("weeks", 3, (0, 6)), 146097 // 21 * 2),
                              (("months", 3, (("back", 1), ("day", 1))), 3200), (("years", 4, 2, (("day", 29),)), 97)):
            series = Series(CLOCK, (pattern, GREGORIAN.day_of(36, 1, 1), NEVER), 720, 600)
            s, p = series.settled()
            self.assertTrue(10 ** 8 < p < 10 ** 9 and p % (146097 * 1440) == 0)
            spans = series.spans()
            self.assertIsNone(series.self_clash())
            self.assertEqual(spans.measure(s, s + p), many * 600)
            self.assertEqual(spans.measure(s, s + p * 10 ** 50), many * 600 * 10 ** 50)

    def test_rare_patterns(self):
        for calendar in PLACES:
            zone = Zone(calendar, 0)
            for pattern in patterns(calendar, (1, 30))[::5]:
                series = Series(zone, (pattern, 20000, NEVER), 0, 1)
                s, p = series.settled()
                if p > 3 * 10 ** 5 * calendar.day:
                    continue
                spans = series.spans()
                for instant in range(s, s + 40):
                    covered = series.covers(instant)
                    self.assertIs(instant in spans, covered)
                    self.assertIs(series.covers(instant + p * 10 ** 50), covered)
                    self.assertIs(instant + p * 10 ** 50 in spans, covered)
