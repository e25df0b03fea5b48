"""`find`: the least possible instant, or that there is none, with a certificate."""

import random
import time
import unittest

from dayspread.almanac import Calendar
from dayspread.book import Book
from dayspread.finder import find
from dayspread.hours import weekly_hours
from dayspread.needs import Need, is_possible
from dayspread.papers import is_certificate
from dayspread.series import Series
from dayspread.spans import Spans
from dayspread.zone import Zone
from tests import plain_papers
from tests.paper_samples import some_book, some_need
from tests.rule_samples import NEVER
from tests.samples import FAR, GREGORIAN, SMALL
from tests.series_samples import samples
from tests.zone_samples import CLOCK

PLAIN = Zone(SMALL, 0)
CIVIL = Zone(GREGORIAN, 0)


class FindTest(unittest.TestCase):
    """No search goes instant by instant over long ways."""

    def setUp(self):
        self.begin = time.process_time()
        self.book = Book()

    def tearDown(self):
        self.assertLess(time.process_time() - self.begin, 30)

    def find(self, need, expected):
        """The answer of find, which is a certificate; expected is the instant, or None for never."""
        found = find(self.book, need)
        self.assertIs(is_certificate(self.book, need, found), True, found[:-1])
        self.assertIs(type(found[-1]), tuple)
        for block in found[-1][:1000]:
            self.assertIs(type(block), tuple)
            self.assertIn((block[2][0], len(block), len(block[2])), (("hours", 3, 2), ("busy", 3, 3)))
        if expected is None:
            self.assertEqual((found[0], len(found)), ("never", 4))
        else:
            self.assertEqual((found[:2], len(found)), (("found", expected), 3))
        return found


class SearchTest(unittest.TestCase):
    """Random books and needs, held against a search instant by instant."""

    WAY = 350

    def test_searches(self):
        source = random.Random(77)
        series = samples(771, 80, longest=9)
        counts = {"found": 0, "late": 0, "never": 0}
        for _ in range(150):
            book, plain = some_book(source, series)
            settled = [booking.settled[0] for booking in plain.values()]
            starts = (0, 1, 17, 100, FAR, 10 ** 80, *(since + by for since in settled for by in (-30, -1, 0, 1, 30)))
            for _ in range(8):
                need, words = some_need(source, starts)
                found = find(book, need)
                self.assertIs(is_certificate(book, need, found), True, found)
                self.check(source, plain, words, found)
                counts["late" if found[0] == "found" and found[1] > need.start + 20 else found[0]] += 1
        self.assertGreater(min(counts.values()), 50, counts)

    def check(self, source, plain, words, found):
        stop = found[1] if found[0] == "found" else found[1] + found[2]
        if found[0] == "found":
            self.assertTrue(plain_papers.is_possible(plain, words, stop))
        instants = {*range(words.start, min(stop, words.start + self.WAY)),
                    *range(max(words.start, stop - self.WAY), stop)}
        instants |= {source.randrange(words.start, stop) for _ in range(50) if stop > words.start}
        for instant in instants:
            self.assertFalse(plain_papers.is_possible(plain, words, instant), (words.__dict__, instant))


class AnswersTest(FindTest):
    def setUp(self):
        """The booking holds the instants 8 to 10 of each four days, but 80 to 82; from 56 on."""
        FindTest.setUp(self)
        weekly = Series(PLAIN, (("weeks", 1, (1,)), 8, NEVER), 2, 3, dropped=(13,), moved=((17, 3, 2),))
        self.book.add("one", weekly, ("red",))

    def test_free_resources(self):
        for start in (0, 1, FAR):
            self.assertEqual(self.find(Need(("free",), 10000, before=10000, after=10000, start=start), start),
                             ("found", start, ()))

    def test_between_occurrences(self):
        for length, before, after, start, expected in (
                (1, 0, 0, 0, 0), (3, 0, 0, 0, 0), (4, 0, 0, 0, 5), (1, 0, 3, 0, 5), (1, 0, 2, 0, 0), (51, 0, 0, 0, 5),
                (52, 0, 0, 0, 59), (1, 0, 51, 0, 59), (1, 7, 0, 0, 0), (4, 7, 0, 0, 12), (1, 3, 0, 3, 8),
                (69, 0, 0, 6, 59), (70, 0, 0, 6, None), (30, 0, 0, 6, 6), (30, 40, 0, 6, None), (25, 45, 0, 50, None),
                (20, 1, 0, 128, 132), (20, 2, 0, 128, None), (20, 1, 0, FAR * 24 + 8, FAR * 24 + 12)):
            self.find(Need(("red",), length, before=before, after=after, start=start), expected)

    def test_hours_and_occurrences(self):
        # Of each 24 instants the hours have 5 to 8 and 11 to 13; the booking holds 8 to 10.
        hours = Spans((), 0, 24, ((5, 9), (11, 14)))
        far = FAR * 24
        for length, before, after, expected in ((3, 0, 0, 5), (4, 0, 0, None), (1, 0, 0, 5), (1, 0, 3, 11),
                                                (1, 1, 3, 12), (2, 1, 0, 5), (2, 1, 2, 12), (2, 2, 2, None),
                                                (3, 0, 1, 11), (3, 1, 1, None)):
            self.find(Need(("red",), length, hours=hours, before=before, after=after, start=far),
                      None if expected is None else far + expected)

    def test_guests_who_come(self):
        need = Need(("ann",), 1, start=56)
        self.find(need, 56)
        self.book.invite("one", "ann")
        self.find(need, 56)
        self.book.reply("one", "ann", "coming")
        self.find(need, 59)
        self.find(Need(("ann", "red"), 70, start=56), None)
        self.book.reply("one", "ann", "absent")
        self.find(need, 56)
        self.find(Need(("ann", "red"), 70, start=56), None)

    def test_all_is_held(self):
        self.book.add("two", Series(PLAIN, (("days", 1), 30, NEVER), 0, 6), ("ann", "bob"))
        for resource in ("ann", "bob"):
            for start in (0, 3, 179):
                self.find(Need((resource,), 1, start=start), start)
            for start in (180, 200, FAR):
                self.find(Need((resource,), 1, start=start), None)
            self.find(Need((resource,), 100, start=80), 80)
            self.find(Need((resource,), 100, start=81), None)

    def test_ended_bookings(self):
        self.book.add("two", Series(PLAIN, (("days", 1), 30, ("until", 99)), 0, 6), ("ann",))
        for start in (180, 300, 599):
            self.find(Need(("ann",), 1, start=start), 600)
        self.find(Need(("ann",), 1, before=17, start=180), 617)
        self.find(Need(("ann",), 1, start=600), 600)
        self.find(Need(("ann",), 3, hours=Spans(((300, 602),), 602, 1, ()), start=180), None)
        self.find(Need(("ann",), 2, hours=Spans(((300, 602),), 602, 1, ()), start=180), 600)

    def test_hours_that_are_empty(self):
        never = Spans((), 0, 1, ())
        for resources in (("free",), ("red",), ("red", "free")):
            for start in (0, 500, FAR):
                for length in (1, 7, 10000):
                    self.find(Need(resources, length, hours=never, start=start), None)
        ended = Spans(((10, 50),), 50, 1, ())
        self.find(Need(("red",), 40, hours=ended), 10)
        self.find(Need(("red",), 41, hours=ended), None)
        self.find(Need(("red",), 40, hours=ended, start=11), None)

    def test_nothing_is_changed(self):
        hours = Spans(((1, 5),), 7, 24, ((5, 9),))
        need = Need(("red",), 2, hours=hours, start=50)
        first = find(self.book, need)
        self.assertEqual(find(self.book, need), first)
        self.assertEqual((need.hours.head, need.hours.since, need.start, self.book.names()),
                         (hours.head, hours.since, 50, ("one",)))


class FarTest(FindTest):
    """Answers that come late, or never, over long ways."""

    def test_a_leap_day_on_a_weekday(self):
        for weekday in range(7):
            year = next(year for year in range(0, 400, 4) if GREGORIAN.is_long(year)
                        and GREGORIAN.day_of(year, 2, 29) % 7 == weekday)
            leaps = Series(CIVIL, (("years", 1, 2, (("day", 29),)), 2, NEVER), 0, 1440).spans()
            hours = leaps & weekly_hours(CIVIL, ((weekday, 600, 700),))
            self.find(Need(("room",), 100, hours=hours), GREGORIAN.day_of(year, 2, 29) * 1440 + 600)

    def test_rare_meetings(self):
        # Two rooms that are free at the same time only on a day that both steps leave.
        zone = Zone(SMALL, 0)
        free = Spans((), 0, 29 * 6, ((0, 6),)) & Spans((), 0, 31 * 6, ((180, 186),))
        self.find(Need(("room",), 6, hours=free), next(day * 6 for day in range(900) if day % 29 == 0
                                                      and day % 31 == 30))
        self.find(Need(("room",), 7, hours=free), None)
        self.book.add("one", Series(zone, (("days", 29), 2, NEVER), 0, 18), ("room",))
        self.find(Need(("room",), 174 - 18), 30)
        self.find(Need(("room",), 174 - 17), None)

    def test_long_ways_through_the_hours(self):
        last = 10 ** 9 - 10000
        hours = Spans((), 0, 10 ** 9, ((last, 10 ** 9),))
        self.assertLessEqual(len(self.find(Need(("room",), 10000, hours=hours), last)[2]), 10 ** 5)
        hours = Spans((), 0, 10 ** 9 - 10001, ((last - 10000, 10 ** 9 - 10001),))
        self.assertLessEqual(len(self.find(Need(("room",), 10000, hours=hours, start=FAR), None)[3]), 10 ** 5)
        ended = Spans(((10 ** 9 - 10, 10 ** 9),), 10 ** 9, 1, ())
        self.find(Need(("room",), 11, hours=ended, start=10 ** 9 - 10 ** 6), None)
        self.find(Need(("room",), 10, hours=ended, start=10 ** 9 - 10 ** 6), 10 ** 9 - 10)

    def test_a_whole_cycle_of_a_clock(self):
        # Each day but its last hour is held, for the 146097 days after which the clock comes again.
        self.book.add("one", Series(CLOCK, (("days", 1), 10, NEVER), 0, 1380), ("room",))
        found = self.find(Need(("room",), 2000, start=FAR), None)
        self.assertEqual((found[2] % (146097 * 1440), len(found[3]) <= 10 ** 5), (0, True))
        # Where the clock goes back, the last hour is two hours long.
        back = max(day for day in range(GREGORIAN.day_of(2000, 10, 25), GREGORIAN.day_of(2000, 11, 1)) if day % 7 == 0)
        start = CLOCK.instant(GREGORIAN.day_of(2000, 6, 1) * 1440)
        self.find(Need(("room",), 60, start=start), start + 1380)
        self.book.remove("one")
        self.book.add("one", Series(CLOCK, (("days", 1), 10, NEVER), 180, 1380), ("room",))
        self.find(Need(("room",), 120, start=start), CLOCK.instant(back * 1440 + 120))
        self.find(Need(("room",), 121, start=start, before=2000), None)

    def test_weekly_hours_that_are_too_short(self):
        hours = weekly_hours(CLOCK, tuple((weekday, 540, 1020) for weekday in range(5)))
        need = Need(("room",), 480, hours=hours, start=FAR)
        self.find(need, next(t for t in range(FAR, FAR + 10 ** 4) if is_possible(self.book, need, t)))
        found = self.find(Need(("room",), 3000, hours=hours, start=FAR), None)
        self.assertLessEqual(len(found[3]), 10 ** 5)

    def test_many_short_occurrences(self):
        # Each block reaches over very many occurrences, which are not gone through one by one.
        calendar = Calendar((1,) * 12, week=10, day=1)
        zone = Zone(calendar, 0)
        self.book.add("one", Series(zone, (("days", 2), 2, NEVER), 0, 1), ("room",))
        period = 10 ** 9 - 10 ** 6
        hours = Spans((), 0, period, ((0, period - 1),))
        found = self.find(Need(("room",), 10000, hours=hours), None)
        self.assertEqual(found[2], period)
        self.find(Need(("room",), 1, hours=hours, start=period), period + 1)
        rare = Spans((), 0, period, ((period - 3, period),))
        self.find(Need(("room",), 1, hours=rare, before=9000), None)

    def test_rare_occurrences(self):
        calendar = Calendar((40,) * 12, week=10, day=1, cycle=400, long_years=(5,), long_month=12, extra=1)
        rule = (("years", 1, 12, (("day", 41),)), 10, NEVER)
        self.book.add("one", Series(Zone(calendar, 0), rule, 0, 1), ("room",))
        first = calendar.day_of(405, 12, 41)
        self.find(Need(("room",), 1, start=first), first + 1)
        self.find(Need(("room",), 10000, start=first - 10 ** 4), first - 10 ** 4)
        self.find(Need(("room",), 10000, before=10000, after=10000, start=first - 19999), first + 10001)
        late = first + calendar.cycle_days() * FAR
        self.find(Need(("room",), 3, before=5, start=late - 2), late + 6)

    def test_many_bookings(self):
        for number in range(24):
            series = Series(CIVIL, (("days", 1), 30 + number, NEVER), 60 * number, 55)
            self.book.add(f"b{number}", series, ("room", f"r{number}"))
        start = GREGORIAN.cycle_days() * 1440 * 10 ** 50
        self.find(Need(("room",), 5, start=start), start + 55)
        self.find(Need(("room",), 6, start=start), None)
        self.find(Need(("room",), 1, before=4, start=start), start + 59)
        self.find(Need(("r3", "r4", "r5"), 60 * 21 + 5, start=start), start + 355)
        self.find(Need(("r3", "r4", "r5"), 60 * 21 + 6, start=start), None)
        # As the bookings begin on different days, more is free at first.
        self.find(Need(("room",), 6), 0)
        self.find(Need(("room",), 600, start=31 * 1440), 31 * 1440 + 115)
        self.find(Need(("room",), 600, start=43 * 1440), 43 * 1440 + 835)
