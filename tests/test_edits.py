"""Points 5.2 and 5.5: days dropped and moved, and series split."""

import unittest

from dayspread.edits import split_at, with_moved, without_day
from dayspread.errors import DayspreadError, InvalidDay, InvalidSeries
from dayspread.rules import check_rule
from dayspread.series import Series
from dayspread.zone import Zone
from tests.rule_samples import NEVER
from tests.samples import FAR, SMALL
from tests.series_samples import TABLE, ZONES, samples

PLAIN = Zone(SMALL, 0)
THIRDS = (("days", 3), 10, NEVER)
SAMPLES = samples(55, 100)


def parts_of(series):
    return series.zone, series.rule, series.unit, series.length, series.dropped, series.moved


class EditTest(unittest.TestCase):
    def refused(self, error, change, series, *args):
        kept = parts_of(series)
        with self.assertRaises(error, msg=args) as caught:
            change(series, *args)
        self.assertIs(type(caught.exception), error)
        self.assertEqual(parts_of(series), kept)

    def test_the_errors_are_of_the_base_and_value_errors(self):
        for error in (InvalidDay, InvalidSeries):
            self.assertTrue(issubclass(error, DayspreadError))
            self.assertTrue(issubclass(error, ValueError))

    def check(self, found, series, dropped, moved):
        self.assertIs(type(found), Series)
        self.assertIsNot(found, series)
        self.assertEqual(parts_of(found), (*parts_of(series)[:4], dropped, moved))


class DropTest(EditTest):
    def test_days_in_any_order(self):
        series = Series(PLAIN, THIRDS, 2, 5)
        dropped = []
        for day in (22, 10, 40, 13, 37):
            after = without_day(series, day)
            dropped.append(day)
            self.check(after, series, tuple(sorted(dropped)), ())
            self.assertIsNone(after.occurrence(day))
            self.assertEqual(series.occurrence(day), (day * 6 + 2, day * 6 + 7))
            series = after

    def test_a_moved_day(self):
        series = Series(PLAIN, THIRDS, 2, 5, dropped=(16,), moved=((10, 0, 1), (13, 500, 2), (22, 3, 4)))
        after = without_day(series, 13)
        self.check(after, series, (13, 16), ((10, 0, 1), (22, 3, 4)))
        self.assertEqual((series.occurrence(13), after.occurrence(13)), ((500, 502), None))

    def test_days_without_an_occurrence(self):
        series = Series(PLAIN, (("days", 3), 10, ("until", 40)), 2, 5, dropped=(16, 22))
        for day in (16, 22, 11, 7, 4, 9, 41, 43, 0, -1, -2, FAR, -FAR):
            self.refused(InvalidDay, without_day, series, day)
        counted = Series(PLAIN, (("days", 3), 10, ("count", 2)), 2, 5)
        self.refused(InvalidDay, without_day, counted, 16)
        self.assertEqual(without_day(counted, 13).dropped, (13,))

    def test_the_greatest_special_day(self):
        daily = Series(PLAIN, (("days", 1), 10, NEVER), 2, 5)
        self.assertEqual(without_day(daily, 2010).dropped, (2010,))
        for day in (2011, 2012, FAR):
            self.refused(InvalidSeries, without_day, daily, day)
        for day in (2009, 2012):
            self.refused(InvalidDay, without_day, Series(PLAIN, (("days", 2), 10, ("until", 2010)), 2, 5), day)

    def test_the_fortieth_and_the_next(self):
        series = Series(PLAIN, (("days", 1), 10, NEVER), 2, 5, dropped=tuple(range(10, 49)), moved=((60, 1, 1),))
        full = without_day(series, 60)
        self.check(full, series, (*range(10, 49), 60), ())
        for day in (49, 61, 2010):
            self.refused(InvalidSeries, without_day, full, day)
        self.refused(InvalidDay, without_day, full, 48)
        self.refused(InvalidDay, without_day, full, 9)

    def test_samples(self):
        for sample in SAMPLES:
            series = sample.series()
            for day in [day for _, _, day in sample.rows if day < 90][:5]:
                after = without_day(series, day)
                rows = tuple(row for row in sample.rows if row[2] != day)
                self.assertEqual(after.occurrences(0, 2000), tuple(row for row in rows if row[0] < 2000))
                self.assertEqual(parts_of(series), parts_of(sample.series()))


class MoveTest(EditTest):
    def test_moved_and_moved_anew(self):
        series = Series(PLAIN, THIRDS, 2, 5, dropped=(16,))
        after = with_moved(series, 22, 300, 2)
        self.check(after, series, (16,), ((22, 300, 2),))
        again = with_moved(after, 13, 0, 18)
        self.check(again, after, (16,), ((13, 0, 18), (22, 300, 2)))
        anew = with_moved(again, 22, 4010 * 6, 1)
        self.check(anew, again, (16,), ((13, 0, 18), (22, 4010 * 6, 1)))
        self.assertEqual([found.occurrence(22) for found in (series, after, again, anew)],
                         [(134, 139), (300, 302), (300, 302), (4010 * 6, 4010 * 6 + 1)])
        self.check(with_moved(anew, 22, 134, 5), anew, (16,), ((13, 0, 18), (22, 134, 5)))

    def test_days_without_an_occurrence(self):
        series = Series(PLAIN, (("days", 3), 10, ("until", 40)), 2, 5, dropped=(16, 22), moved=((13, 1, 1),))
        for day in (16, 22, 11, 7, 4, 9, 41, 43, 0, -1, -2, FAR, -FAR):
            self.refused(InvalidDay, with_moved, series, day, 5, 1)
            # The day is told before start and length.
            self.refused(InvalidDay, with_moved, series, day, -1, 0)

    def test_starts_and_lengths(self):
        series = Series(PLAIN, THIRDS, 2, 5, moved=((13, 1, 1),))
        for day in (13, 16):
            for start, length in ((0, 1), (4010 * 6, 18)):
                self.assertEqual(with_moved(series, day, start, length).occurrence(day), (start, start + length))
            for start, length in ((-1, 1), (4010 * 6 + 1, 1), (5, 0), (5, 19), (FAR, 1), (5, FAR), (-FAR, 1), (5, -1)):
                self.refused(InvalidSeries, with_moved, series, day, start, length)

    def test_the_greatest_special_day(self):
        daily = Series(PLAIN, (("days", 1), 10, NEVER), 2, 5)
        self.assertEqual(with_moved(daily, 2010, 5, 1).moved, ((2010, 5, 1),))
        for day in (2011, 2012, FAR):
            self.refused(InvalidSeries, with_moved, daily, day, 5, 1)

    def test_the_fortieth_and_the_next(self):
        rows = tuple((day, day, 1) for day in range(10, 49))
        series = Series(PLAIN, (("days", 1), 10, NEVER), 2, 5, moved=rows, dropped=(60,))
        full = with_moved(series, 59, 4, 4)
        self.check(full, series, (60,), (*rows, (59, 4, 4)))
        self.check(with_moved(full, 10, 7, 7), full, (60,), ((10, 7, 7), *rows[1:], (59, 4, 4)))
        for day in (49, 61, 2010):
            self.refused(InvalidSeries, with_moved, full, day, 5, 1)
        # Dropping one of the moved days makes room.
        self.assertEqual(len(with_moved(without_day(full, 20), 61, 5, 1).moved), 40)

    def test_samples(self):
        for sample in SAMPLES:
            series = sample.series()
            for day in [day for _, _, day in sample.rows if day < 90][:5]:
                after = with_moved(series, day, 77, 9)
                rows = sorted([*(row for row in sample.rows if row[2] != day), (77, 86, day)])
                self.assertEqual(after.occurrences(0, 2000), tuple(row for row in rows if row[0] < 2000))
                self.assertEqual(parts_of(series), parts_of(sample.series()))


class SplitTest(EditTest):
    def both(self, series, day):
        kept = parts_of(series)
        found = split_at(series, day)
        self.assertIs(type(found), tuple)
        early, late = found
        self.assertEqual(parts_of(series), kept)
        for made in found:
            self.assertIs(type(made), Series)
            self.assertEqual((made.zone, made.rule[0], made.unit, made.length),
                             (series.zone, series.rule[0], series.unit, series.length))
            check_rule(series.zone.calendar, made.rule)
        self.assertEqual((early.rule[1:], late.rule[1]), ((series.rule[1], ("until", day - 1)), day))
        return early, late

    def test_each_end(self):
        for end, rest in ((NEVER, NEVER), (("until", 41), ("until", 41)), (("until", 1000), ("until", 1000)),
                          (("count", 9), ("count", 5)), (("count", 60), ("count", 56)), (("count", 5), ("count", 1))):
            series = Series(PLAIN, (("days", 3), 10, end), 2, 5)
            self.assertEqual(self.both(series, 22)[1].rule, (("days", 3), 22, rest))

    def test_special_days(self):
        moved = ((10, 1, 1), (19, 500, 2), (22, 0, 3), (37, 5, 5))
        series = Series(PLAIN, THIRDS, 2, 5, dropped=(13, 25), moved=moved)
        for day, dropped, kept in ((13, 0, 1), (16, 1, 1), (19, 1, 1), (22, 1, 2), (25, 1, 3), (28, 2, 3), (40, 2, 4)):
            early, late = self.both(series, day)
            self.assertEqual((early.dropped, early.moved), ((13, 25)[:dropped], moved[:kept]))
            self.assertEqual((late.dropped, late.moved), ((13, 25)[dropped:], moved[kept:]))

    def test_days_at_which_it_cannot_be_split(self):
        series = Series(PLAIN, (("days", 3), 10, ("until", 41)), 2, 5, dropped=(10, 13))
        for day in (10, 11, 12, 9, 7, 4, 1, 0, -1, -2, 41, 43, 46, FAR, -FAR):
            self.refused(InvalidDay, split_at, series, day)
        self.assertEqual(self.both(series, 13)[0].dropped, (10,))
        self.both(series, 40)
        counted = Series(PLAIN, (("days", 3), 10, ("count", 3)), 2, 5)
        for day in (10, 19, 22):
            self.refused(InvalidDay, split_at, counted, day)
        self.assertEqual([self.both(counted, day)[1].rule[2] for day in (13, 16)], [("count", 2), ("count", 1)])

    def test_the_first_day_of_the_rule(self):
        # The first day that fits comes behind `first`.
        rule = (("months", 1, (("back", 1),)), 16, NEVER)
        days = TABLE.rule_days(rule)
        self.assertEqual(days[:2], [21, 25])
        series = Series(PLAIN, rule, 2, 5)
        for day in (16, 20, 21):
            self.refused(InvalidDay, split_at, series, day)
        self.both(series, 25)
        lone = Series(PLAIN, (("days", 3), 10, ("count", 1)), 2, 5)
        none = Series(PLAIN, (("months", 1, (("day", 8),)), 10, NEVER), 2, 5)
        for day in (10, 13, 16):
            self.refused(InvalidDay, split_at, lone, day)
            self.refused(InvalidDay, split_at, none, day)

    def test_bounds(self):
        daily = Series(PLAIN, (("days", 1), 10, NEVER), 2, 5)
        self.assertEqual(self.both(daily, 2011)[0].rule[2], ("until", 2010))
        for day in (2012, 2013, 20000, FAR):
            self.refused(InvalidDay, split_at, daily, day)
        self.assertEqual(self.both(Series(PLAIN, (("days", 1), 10, ("until", 2010)), 2, 5), 2010)[1].rule[2],
                         ("until", 2010))
        late = Series(PLAIN, (("days", 1), 18500, NEVER), 2, 5)
        self.both(late, 20000)
        for day in (20001, 20501, 20502):
            self.refused(InvalidDay, split_at, late, day)
        both = Series(PLAIN, (("days", 1), 17999, NEVER), 2, 5)
        self.both(both, 20000)
        self.refused(InvalidDay, split_at, both, 20001)

    def test_special_days_at_the_bounds(self):
        moved = ((10, 4010 * 6, 18), (2009, 0, 1))
        series = Series(PLAIN, (("days", 1), 10, NEVER), 2, 5, dropped=(2010,), moved=moved)
        for day in (11, 2009, 2010, 2011):
            early, late = self.both(series, day)
            self.assertEqual((*early.dropped, *late.dropped, *early.moved, *late.moved),
                             (2010, *moved))

    def test_samples(self):
        splits = 0
        for sample in SAMPLES:
            series = sample.series()
            days = TABLE.rule_days(sample.rule)
            for day in days[1:6]:
                early, late = self.both(series, day)
                rows = sample.within(0, 3000)
                self.assertEqual(early.occurrences(0, 3000), tuple(row for row in rows if row[2] < day))
                self.assertEqual(late.occurrences(0, 3000), tuple(row for row in rows if row[2] >= day))
                if sample.rule[2][0] == "count":
                    self.assertEqual(late.rule[2], ("count", len(days) - days.index(day)))
                splits += 1
            for day in range(min(days[:1], default=0) + 60):
                if day not in days[1:]:
                    self.refused(InvalidDay, split_at, series, day)
        self.assertGreater(splits, 200)

    def test_zones(self):
        for zone in ZONES:
            series = Series(zone, (("weeks", 2, (1, 3)), 9, NEVER), 4, 7, dropped=(19,), moved=((11, 4, 4),))
            early, late = self.both(series, 25)
            self.assertEqual(sorted(early.occurrences(0, 2000) + late.occurrences(0, 2000)),
                             list(series.occurrences(0, 2000)))
