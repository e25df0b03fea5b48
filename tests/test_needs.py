"""Point 7.1: needs, and which instants are possible for them."""

import random
import unittest

from dayspread.book import Book
from dayspread.errors import DayspreadError, InvalidNeed
from dayspread.hours import weekly_hours
from dayspread.needs import Need, is_possible
from dayspread.series import Series
from dayspread.spans import Spans
from dayspread.zone import Zone
from tests.plain import belongs, values
from tests.rule_samples import NEVER
from tests.samples import FAR, GREGORIAN, SMALL
from tests.span_samples import ALL, EVENS, NOTHING
from tests.zone_samples import CLOCK

PLAIN = Zone(SMALL, 0)


class ValuesTest(unittest.TestCase):
    def refused(self, *args, **more):
        with self.assertRaises(InvalidNeed, msg=(args, more)) as caught:
            Need(*args, **more)
        self.assertIs(type(caught.exception), InvalidNeed)

    def test_the_error_is_of_the_base_and_a_value_error(self):
        self.assertTrue(issubclass(InvalidNeed, DayspreadError))
        self.assertTrue(issubclass(InvalidNeed, ValueError))

    def test_attributes(self):
        hours = Spans(*EVENS)
        need = Need(("red", "ann"), 5, hours=hours, before=1, after=2, start=3)
        self.assertEqual((need.resources, need.length), (("red", "ann"), 5))
        self.assertEqual((need.before, need.after, need.start), (1, 2, 3))
        self.assertEqual(values(need.hours), EVENS)
        need = Need(("red",), 5)
        self.assertEqual((need.resources, need.length, need.before, need.after, need.start), (("red",), 5, 0, 0, 0))
        self.assertIs(type(need.hours), Spans)
        self.assertEqual(values(need.hours), ALL)
        self.assertEqual(values(Need(("red",), 5, hours=Spans(*NOTHING)).hours), NOTHING)
        with self.assertRaises(TypeError):
            Need(("red",), 5, hours)

    def test_resources(self):
        for rows in (("a",), ("a", "b"), ("a", "b", "c"), ("d", "c", "b", "a"), ("abcdefgh0129",)):
            self.assertEqual(Need(rows, 1).resources, rows)
        for rows in ((), ("a", "b", "c", "d", "e"), ("a", "a"), ("a", "b", "a"), ("",), ("A",), ("abcdefgh01299",),
                     ("a", "b c"), ("a", "")):
            self.refused(rows, 1)

    def test_numbers(self):
        for length in (1, 2, 10000):
            self.assertEqual(Need(("a",), length).length, length)
        for length in (0, -1, 10001, FAR, -FAR):
            self.refused(("a",), length)
        for name in ("before", "after"):
            for number in (0, 1, 10000):
                self.assertEqual(getattr(Need(("a",), 1, **{name: number}), name), number)
            for number in (-1, 10001, FAR, -FAR):
                self.refused(("a",), 1, **{name: number})
        for start in (0, 1, 10 ** 9, FAR):
            self.assertEqual(Need(("a",), 1, start=start).start, start)
        for start in (-1, -2, -FAR):
            self.refused(("a",), 1, start=start)


class PossibleTest(unittest.TestCase):
    def setUp(self):
        """Bookings of days 9, 13, 17 and so on, one of them moved, and of two guests, one of whom comes."""
        self.book = Book()
        weekly = Series(PLAIN, (("weeks", 1, (1,)), 8, NEVER), 2, 3, dropped=(13,), moved=((17, 1, 2), (21, 600, 4)))
        self.book.add("one", weekly, ("red", "blue"))
        self.book.add("two", Series(PLAIN, (("days", 7), 10, ("count", 9)), 0, 6), ("lamp",))
        for person in ("ann", "bob"):
            self.book.invite("two", person)
        self.book.reply("two", "ann", "coming")
        self.held = {}
        for name, held in (("one", ("red", "blue")), ("two", ("lamp", "ann"))):
            rows = self.book.series(name).occurrences(0, 4000)
            for resource in held:
                self.held[resource] = {t for start, end, _ in rows for t in range(start, end)}

    def plainly(self, need, told, t):
        """Point 7.1, word by word; the hours are those of the four values."""
        if t < need.start or not all(belongs(told, u) for u in range(t, t + need.length)):
            return False
        busy = set().union(*(self.held.get(resource, ()) for resource in need.resources))
        return not any(u in busy for u in range(t - need.before, t + need.length + need.after))

    def test_each_instant(self):
        source = random.Random(71)
        weekly = weekly_hours(Zone(SMALL, 3), ((0, 0, 6), (1, 0, 5), (3, 1, 6)))
        late = (((3, 9), (12, 40)), 90, 50, ((0, 20), (22, 45)))
        for told in (ALL, EVENS, NOTHING, values(weekly), late):
            for _ in range(40):
                resources = tuple(source.sample(("red", "lamp", "ann", "bob", "free"), source.randint(1, 3)))
                need = Need(resources, source.choice((1, 2, 4, 9)), hours=Spans(*told), before=source.choice((0, 1, 5)),
                            after=source.choice((0, 1, 5)), start=source.choice((0, 0, 7, 60)))
                for instant in range(0, 260):
                    self.assertIs(is_possible(self.book, need, instant), self.plainly(need, told, instant),
                                  (told, need.resources, need.length, need.before, need.after, need.start, instant))

    def test_near_zero(self):
        # The moved occurrence of day 17 holds the instants 1 and 2.
        for before, after, expected in ((0, 0, (0, 3)), (1, 0, (0, 4)), (10000, 0, (0,)), (0, 1, (3,)), (2, 1, (5,))):
            need = Need(("red",), 1, before=before, after=after)
            self.assertEqual(tuple(t for t in range(6) if is_possible(self.book, need, t))[:len(expected)], expected)
        self.assertTrue(is_possible(self.book, Need(("bob",), 10000, before=10000, after=10000), 0))
        self.book.move("one", 17, 0, 1)
        for before in (0, 1, 10000):
            self.assertFalse(is_possible(self.book, Need(("red",), 1, before=before), 0))

    def test_below_the_start(self):
        for start in (1, 100, FAR):
            need = Need(("free",), 1, start=start)
            self.assertEqual([is_possible(self.book, need, instant) for instant in (0, start - 1, start, start + 1)],
                             [False, False, True, True])
        for instant in (-1, -2, -FAR):
            self.assertIs(is_possible(self.book, Need(("free",), 1), instant), False)
        # What comes before the start is looked at all the same.
        self.assertIs(is_possible(self.book, Need(("red",), 1, before=2, start=4), 4), False)
        self.assertIs(is_possible(self.book, Need(("red",), 1, before=1, start=4), 4), True)

    def test_far_instants(self):
        far = FAR * 24
        need = Need(("blue", "ann"), 4, before=2, after=1)
        # The booking holds the instants 8 to 10 of each week of 24 units.
        possible = [t for t in range(24) if is_possible(self.book, need, far + 24 + t)]
        self.assertEqual(possible, [0, 1, 2, 3, *range(13, 24)])
        for instant in (FAR, 10 ** 299):
            self.assertIs(is_possible(self.book, Need(("lamp",), 10000, before=10000, after=10000), instant), True)
            self.assertIs(is_possible(self.book, Need(("red",), 22), instant), False)
            self.assertIs(is_possible(self.book, Need(("red",), 1, hours=Spans(*NOTHING)), instant), False)

    def test_the_longest(self):
        book = Book()
        book.add("one", Series(Zone(GREGORIAN, 0), (("days", 30), 20, NEVER), 0, 1), ("room",))
        first, second = 20 * 1440, 50 * 1440
        need = Need(("room",), 10000, before=10000, after=10000)
        possible = [t for t in (first + 10000, first + 10001, first + 10002, second - 20000, second - 19999)
                    if is_possible(book, need, t)]
        self.assertEqual(possible, [first + 10001, first + 10002, second - 20000])
        hours = Spans(((first + 9, first + 10008), (first + 10010, first + 20011)), first + 20011, 1, ())
        need = Need(("room",), 10000, hours=hours)
        self.assertEqual([t for t in range(first, first + 20100) if is_possible(book, need, t)],
                         [first + 10010, first + 10011])

    def test_hours_by_the_clock(self):
        book = Book()
        book.add("one", Series(CLOCK, (("weeks", 1, (1,)), 100, NEVER), 540, 60), ("room",))
        need = Need(("room",), 30, hours=weekly_hours(CLOCK, ((1, 480, 700),)), before=15, after=10)
        for year in (1, 2000, 10 ** 60):
            for month in (1, 7):
                day = next(day for day in range(GREGORIAN.day_of(year, month, 8), 10 ** 70) if day % 7 == 1)
                possible = [unit for unit in range(400, 800)
                            if is_possible(book, need, CLOCK.instant(day * 1440) + unit)]
                self.assertEqual(possible, [*range(480, 501), *range(615, 671)])

    def test_nothing_is_changed(self):
        before = [(name, values(self.book.series(name).spans())) for name in self.book.names()]
        need = Need(("red",), 3, hours=Spans(*EVENS), before=1)
        is_possible(self.book, need, 50)
        self.assertEqual(before, [(name, values(self.book.series(name).spans())) for name in self.book.names()])
        self.assertEqual((need.resources, need.length, values(need.hours), need.before), (("red",), 3, EVENS, 1))
