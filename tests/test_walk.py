"""Point 3.3: walks over the days of a rule, held against a plain test of each day."""

import unittest

from dayspread.almanac import Calendar
from dayspread.walk import days_between, last_day, next_day
from tests.plain import Table, ended
from tests.rule_samples import NEVER, PLACES, patterns
from tests.samples import FAR, GREGORIAN, GREGORIAN_LONG, LEAST, RARE, SMALL, TWELVE

ENDS = (NEVER, ("until", 11), ("until", 60), ("until", 2011), ("count", 1), ("count", 2), ("count", 60))


# Every end of ENDS comes before this day.
LATEST_END = 2100


def whole_table(calendar, every):
    """A table of more than two whole repetitions of each rule with this `every`, and of all days up to LATEST_END."""
    repetition = calendar.repeat_days() // calendar.cycle_days() * calendar.cycle * every
    return Table(calendar, max(2 * repetition, LATEST_END * repetition // calendar.year_start(repetition)) + 20)


def sampled(days, first):
    """Some days of a table, most of them near the first day of a rule."""
    near = range(max(0, first - 3), min(days, first + 80))
    return sorted({0, *near, *range(0, days, max(1, days // 40))})


def first_from(days, day):
    return next((found for found in days if found >= day), None)


class EachDayTest(unittest.TestCase):
    """The tables are so long that a rule without days in their first half has none at all."""

    def each_case(self):
        for calendar in PLACES:
            for every in (1,) if calendar is TWELVE else (1, 3):
                table = whole_table(calendar, every)
                for pattern in patterns(calendar, (every,)):
                    yield calendar, len(table.dates), pattern, table.fit_days((pattern, 11, NEVER))

    def test_each_case(self):
        for calendar, many, pattern, days in self.each_case():
            for end in ENDS:
                rule = (pattern, 11, end)
                with self.subTest(months=calendar.months, rule=rule):
                    self.check_next_days(calendar, many, rule, ended(days, end))
                    self.check_days_between(calendar, many, rule, ended(days, end))
                    self.check_last_day(calendar, rule, ended(days, end))

    def check_next_days(self, calendar, many, rule, known):
        # The second half of a table does not always tell the next day of a rule without a last day.
        bound = many if rule[2][0] == "until" or len(known) == 60 else many // 2
        for day in sampled(bound, 11):
            self.assertEqual(next_day(calendar, rule, day), first_from(known, day), day)

    def check_days_between(self, calendar, many, rule, known):
        bounds = ((0, many - 1), (11, 11), (0, 0), (10, 12), (0, 11), (12, 60), (11, 61), (50, 61), (60, 62),
                  (many // 2, many // 2 + 9), (many // 2, many // 2))
        for start, stop in bounds:
            expected = tuple(found for found in known if start <= found < stop)
            self.assertEqual(days_between(calendar, rule, start, stop), expected)

    def check_last_day(self, calendar, rule, known):
        if rule[2][0] == "count" and 0 < len(known) < rule[2][1]:
            return
        expected = 0 if not known else None if rule[2] == NEVER else known[-1]
        self.assertEqual(last_day(calendar, rule), expected)

    def test_short_walks_for_each_every(self):
        table = Table(SMALL, 400)
        for every in range(1, 31):
            for pattern in patterns(SMALL, (every,)):
                for first in (2, 31):
                    days = table.fit_days((pattern, first, NEVER))
                    for end in (NEVER, ("until", first + 50), ("count", 2), ("count", 60)):
                        rule = (pattern, first, end)
                        known = ended(days, end)
                        between = tuple(day for day in known if day < 900)
                        self.assertEqual(days_between(SMALL, rule, 0, 900), between, rule)
                        if known:
                            self.assertEqual(next_day(SMALL, rule, 0), known[0], rule)
                            self.assertEqual(next_day(SMALL, rule, known[0]), known[0], rule)


class EndsTest(unittest.TestCase):
    def test_no_days_at_all(self):
        for end in ENDS:
            for pattern in (("months", 1, (("day", 8),)), ("years", 1, 1, (("day", 4), ("back", 4))),
                            ("years", 30, 3, (("weekday", 2, 1),))):
                rule = (pattern, 11, end)
                self.assertEqual(last_day(SMALL, rule), 0)
                self.assertEqual(days_between(SMALL, rule, 0, 10 ** 5), ())
                for day in (0, 11, 12, FAR):
                    self.assertIsNone(next_day(SMALL, rule, day))

    def test_until_before_the_first_fit(self):
        rule = (("years", 1, 3, (("back", 1),)), 12, ("until", 24))
        self.assertEqual((next_day(SMALL, rule, 0), last_day(SMALL, rule)), (None, 0))
        rule = (("years", 1, 3, (("back", 1),)), 12, ("until", 25))
        self.assertEqual((next_day(SMALL, rule, 0), last_day(SMALL, rule)), (25, 25))
        self.assertEqual(days_between(SMALL, rule, 0, 1000), (25,))

    def test_none_from_some_day_on(self):
        rule = (("days", 10), 5, ("count", 3))
        self.assertEqual([next_day(SMALL, rule, day) for day in (0, 5, 6, 15, 16, 25, 26, FAR)],
                         [5, 5, 15, 15, 25, 25, None, None])
        rule = (("days", 10), 5, ("until", 34))
        self.assertEqual([next_day(SMALL, rule, day) for day in (25, 26, 34, 35, FAR)], [25, None, None, None, None])
        self.assertEqual(last_day(SMALL, rule), 25)
        self.assertEqual(last_day(SMALL, (("days", 10), 5, ("until", 35))), 35)
        self.assertEqual(last_day(SMALL, (("days", 10), 5, ("until", 5))), 5)

    def test_bounds_that_are_alike(self):
        rule = (("days", 1), 5, NEVER)
        for day in (0, 4, 5, 6, FAR):
            self.assertEqual(days_between(SMALL, rule, day, day), ())
        for pattern in (("weeks", 1, (0, 1, 2, 3)), ("months", 1, (("day", 1),)), ("years", 1, 1, (("day", 1),))):
            for end in (NEVER, ("until", 12), ("count", 1)):
                self.assertEqual(days_between(SMALL, (pattern, 12, end), 12, 12), ())
                self.assertEqual(days_between(SMALL, (pattern, 12, end), 12, 13), (12,))

    def test_answers_are_tuples(self):
        self.assertIsInstance(days_between(SMALL, (("days", 1), 5, NEVER), 0, 9), tuple)
        self.assertEqual(days_between(SMALL, (("days", 1), 5, NEVER), 0, 9), (5, 6, 7, 8))


class FarTest(unittest.TestCase):
    """Days beyond 10 ** 60: what comes again after whole repetitions."""

    def test_far_days(self):
        for calendar in PLACES:
            table = whole_table(calendar, 2)
            far = FAR * 2 * calendar.repeat_days()
            half = len(table.dates) // 2
            for pattern in patterns(calendar, (1, 2)):
                near = (pattern, 11, NEVER)
                moved = (pattern, 11 + far, NEVER)
                known = table.fit_days(near)
                for day in sampled(half, 11)[::7]:
                    found = first_from(known, day)
                    expected = None if found is None else found + far
                    self.assertEqual(next_day(calendar, moved, day + far), expected, (pattern, day))
                    if day >= 11:
                        self.assertEqual(next_day(calendar, near, day + far), expected, (pattern, day))
                first = known[0] + far if known else None
                self.assertEqual([next_day(calendar, moved, day) for day in (0, 50, far)], [first] * 3, pattern)
                between = tuple(found + far for found in known if 30 <= found < half)
                self.assertEqual(days_between(calendar, (pattern, 11, NEVER), 30 + far, half + far), between)
                self.assertEqual(days_between(calendar, (pattern, 11 + far, NEVER), 30 + far, half + far), between)
                if len(known) > 3:
                    self.assertEqual(last_day(calendar, (pattern, 11 + far, ("count", 3))), known[2] + far)
                    until = (pattern, 11 + far, ("until", 11 + far + 40))
                    found = [day for day in known if day <= 51]
                    self.assertEqual(last_day(calendar, until), found[-1] + far if found else 0)

    def test_numbers_of_300_digits(self):
        day = 10 ** 299 + 12345
        rule = (("months", 7, (("back", 1),)), day, NEVER)
        found = next_day(GREGORIAN, rule, day)
        self.assertEqual(GREGORIAN.month_index(found), GREGORIAN.month_index(day))
        self.assertEqual(GREGORIAN.date_of(found + 1)[2], 1)
        self.assertEqual(days_between(GREGORIAN, rule, day, day + 40), (found,))
        self.assertEqual(next_day(GREGORIAN, (("days", 7), 3, NEVER), day), day + (3 - day) % 7)

    def test_a_million_days(self):
        for start in (0, FAR):
            days = days_between(SMALL, (("days", 1), 2, NEVER), start, start + 10 ** 6)
            self.assertEqual((days[0], days[-1], len(days)), (max(2, start), start + 10 ** 6 - 1,
                                                              10 ** 6 - (2 if start == 0 else 0)))
        days = days_between(GREGORIAN, (("years", 1, 2, (("day", 29),)), 2, NEVER), 0, 10 ** 6)
        expected = [year for year in range(2738) if year % 400 in GREGORIAN_LONG]
        self.assertEqual([GREGORIAN.date_of(day) for day in days], [(year, 2, 29) for year in expected])


class RareTest(unittest.TestCase):
    """Places that come seldom, in calendars with a cycle of 400 years."""

    def leap_days(self, every, year, many):
        """The years of the next leap days with this `every`, counted from a year, among a whole repetition."""
        years = range(year, year + 400 * every + every, every)
        return [found for found in years if found % 400 in GREGORIAN_LONG][:many]

    def test_leap_days(self):
        for every in range(1, 31):
            for first_year in (0, 1, 2, 3, 4, 97, 100, 1900, 400 * FAR + 6):
                pattern = ("years", every, 2, (("day", 29),))
                first = GREGORIAN.day_of(first_year, 1, 3)
                years = self.leap_days(every, first_year, 3)
                day = first
                for year in years:
                    day = next_day(GREGORIAN, (pattern, first, NEVER), day)
                    self.assertEqual(GREGORIAN.date_of(day), (year, 2, 29))
                    day += 1
                if not years:
                    self.assertIsNone(next_day(GREGORIAN, (pattern, first, NEVER), first))
                    self.assertEqual(last_day(GREGORIAN, (pattern, first, NEVER)), 0)
                    self.assertEqual(last_day(GREGORIAN, (pattern, first, ("count", 60))), 0)
                    self.assertEqual(days_between(GREGORIAN, (pattern, first, NEVER), first, first + 10 ** 6), ())
                else:
                    self.assertIsNone(last_day(GREGORIAN, (pattern, first, NEVER)))
                    last = last_day(GREGORIAN, (pattern, first, ("count", len(years))))
                    self.assertEqual(GREGORIAN.date_of(last), (years[-1], 2, 29))

    def test_leap_days_by_months(self):
        # Month 2 alone can have 29 days, and only in a long year.
        lengths = (20, 28, 20, 21, 22, 23, 24, 25, 26, 27, 28, 28)
        calendar = Calendar(lengths, long_month=2, extra=1, cycle=400, long_years=GREGORIAN_LONG)
        for every in range(1, 31):
            for first in (2, 99, 1000):
                base = calendar.month_index(first)
                indexes = range(base, base + every * 4801, every)
                found = [index for index in indexes if index % 12 == 1 and index // 12 % 400 in GREGORIAN_LONG]
                days = [calendar.month_start(index) + 28 for index in found]
                rule = (("months", every, (("back", 29), ("day", 29), ("day", 30))), first, NEVER)
                expected = [calendar.month_start(index) for index in found]
                self.assertEqual(next_day(calendar, rule, 0), first_from(expected, first))
                for start, last in list(zip(expected, days))[:3]:
                    self.assertEqual(next_day(calendar, rule, start), start)
                    self.assertEqual(next_day(calendar, rule, start + 1), last)
                    self.assertEqual(next_day(calendar, rule, last), last)

    def test_one_long_month_in_a_cycle(self):
        # Only month 3 of the years 399, 799 .. has 11 days; with weeks of 10 days one weekday comes twice in it.
        for every in range(1, 31):
            first = 100
            base = RARE.month_index(first)
            aligned = [400 * turn + 399 for turn in range(2 * every)
                       if ((400 * turn + 399) * 3 + 2 - base) % every == 0]
            expected = RARE.day_of(aligned[0], 3, 11) if aligned else None
            rule = (("months", every, (("day", 11),)), first, NEVER)
            self.assertEqual(next_day(RARE, rule, 0), expected)
            if aligned:
                again = RARE.day_of(aligned[1], 3, 11) if len(aligned) > 1 else None
                self.assertEqual(next_day(RARE, rule, expected), expected)
                if again is not None:
                    self.assertEqual(next_day(RARE, rule, expected + 1), again)

    def test_a_weekday_that_comes_seldom(self):
        for every in (1, 7, 9, 30):
            for weekday in range(10):
                first = 2
                year = RARE.date_of(first)[0]
                found = None
                for candidate in range(year, year + every * 400 * 12, every):
                    start = (candidate // 400 * 8404 + candidate % 400 * 21 + 14)
                    if candidate % 400 == 399 and start % 10 == weekday:
                        found = start + 10
                        break
                rule = (("years", every, 3, (("weekday", 2, weekday),)), first, NEVER)
                self.assertEqual(next_day(RARE, rule, 0), found, (every, weekday))
                self.assertEqual(last_day(RARE, rule), 0 if found is None else None)

    def test_sixty_rare_days(self):
        rule = (("months", 1, (("day", 11),)), 2, ("count", 60))
        self.assertEqual(last_day(RARE, rule), RARE.day_of(400 * 59 + 399, 3, 11))

    def test_the_first_month_comes_again(self):
        # The only day of the rule in a whole repetition lies below the one that is asked for, in the same month.
        calendar = Calendar((4, 4), week=4)
        rule = (("years", 3, 2, (("day", 2),)), 2, NEVER)
        self.assertEqual([next_day(calendar, rule, day) for day in (5, 6, 7, 29, 30)], [5, 29, 29, 29, 53])
        only = (("months", 1, (("day", 1),)), 2, NEVER)
        self.assertEqual([next_day(LEAST, only, day) for day in (0, 3, FAR)], [2, 3, FAR])
        ten = Calendar((11,), week=10)
        rule = (("months", 10, (("weekday", 2, 5),)), 60, NEVER)
        # Month 5 has the days 55 to 65, and its weekday 5 comes twice; the same holds for every tenth month.
        self.assertEqual([next_day(ten, rule, day) for day in (60, 65, 66, 176)], [65, 65, 175, 285])
