"""Point 10.1: rings, and the next one."""

import random
import time
import unittest

from dayspread.book import Book
from dayspread.reminders import next_ring, rings
from dayspread.series import Series
from dayspread.zone import Zone
from tests.paper_samples import RESOURCES, some_book
from tests.rule_samples import NEVER
from tests.samples import FAR, GREGORIAN, SMALL
from tests.series_samples import samples
from tests.zone_samples import CLOCK

PLAIN = Zone(SMALL, 0)


class RingsTest(unittest.TestCase):
    def setUp(self):
        """Days 9, 21, 25 and so on at unit 2; day 13 is dropped; 17 is moved to 3, and 29 to 600, ahead of day 101."""
        self.book = Book()
        weekly = Series(PLAIN, (("weeks", 1, (1,)), 8, NEVER), 2, 3, dropped=(13,), moved=((17, 3, 2), (29, 600, 4)))
        self.book.add("one", weekly, ("red", "blue"))
        self.book.add("two", Series(PLAIN, (("days", 7), 10, ("count", 3)), 0, 6), ("red",))

    def test_ordinary_ones(self):
        expected = ((3, "one", 17), (56, "one", 9), (60, "two", 10), (102, "two", 17), (128, "one", 21))
        self.assertEqual(rings(self.book, "red", 0, 0, 140), expected)
        self.assertEqual(rings(self.book, "red", 3, 0, 140), tuple((t - 3, name, day) for t, name, day in expected))
        # With a lead of 4 the moved occurrence would ring below 0.
        self.assertEqual(rings(self.book, "red", 4, 0, 130), tuple((t - 4, name, day) for t, name, day in expected[1:]))
        self.assertEqual(rings(self.book, "blue", 1, 0, 130), ((2, "one", 17), (55, "one", 9), (127, "one", 21)))
        self.assertEqual(rings(self.book, "free", 0, 0, 10 ** 6), ())

    def test_bounds(self):
        for lead in (0, 1, 30, 56):
            ring = 56 - lead
            self.assertEqual(rings(self.book, "blue", lead, ring, ring + 1), ((ring, "one", 9),))
            for start, stop in ((ring, ring), (ring + 1, ring + 4), (ring + 1, ring + 1)):
                self.assertEqual(rings(self.book, "blue", lead, start, stop), ())
            if ring > 0:
                self.assertEqual(rings(self.book, "blue", lead, ring - 1, ring), ())
                self.assertEqual(rings(self.book, "blue", lead, ring - 1, ring + 1), ((ring, "one", 9),))
        # An occurrence that started before the bounds does not ring within them.
        self.assertEqual(rings(self.book, "red", 0, 57, 60), ())

    def test_great_leads(self):
        self.assertEqual(rings(self.book, "red", 128, 0, 1), ((0, "one", 21),))
        self.assertEqual(rings(self.book, "red", 129, 0, 1), ())
        first = next(day for day in range(1, 10 ** 4) if day % 4 == 1 and day * 6 + 2 >= 10000)
        self.assertEqual(rings(self.book, "red", 10000, 0, 25)[:1], ((first * 6 + 2 - 10000, "one", first),))
        self.assertEqual(next_ring(self.book, "red", 10000, 0), (first * 6 + 2 - 10000, "one", first))

    def test_moved_days(self):
        # They ring by their own start, in the order of the instants.
        start = 97 * 6 + 2
        self.assertEqual(rings(self.book, "blue", 5, start - 5, start + 30),
                         ((start - 5, "one", 97), (595, "one", 29), (start + 19, "one", 101)))
        self.assertEqual(next_ring(self.book, "blue", 5, start - 4), (595, "one", 29))
        self.assertEqual(rings(self.book, "blue", 0, 29 * 6, 30 * 6), ())

    def test_next_ones(self):
        for instant, expected in ((0, (3, "one", 17)), (3, (3, "one", 17)), (4, (56, "one", 9)), (56, (56, "one", 9)),
                                  (57, (60, "two", 10)), (61, (102, "two", 17)), (103, (128, "one", 21))):
            self.assertEqual(next_ring(self.book, "red", 0, instant), expected)
        self.assertEqual(next_ring(self.book, "red", 3, 0), (0, "one", 17))
        self.assertEqual(next_ring(self.book, "red", 4, 0), (52, "one", 9))
        self.assertIsNone(next_ring(self.book, "free", 0, 0))
        self.assertIsNone(next_ring(Book(), "red", 0, 0))

    def test_series_that_end(self):
        self.book.remove("one")
        self.assertEqual(next_ring(self.book, "red", 0, 103), (144, "two", 24))
        self.assertEqual(next_ring(self.book, "red", 10, 134), (134, "two", 24))
        for instant in (135, 145, FAR):
            self.assertIsNone(next_ring(self.book, "red", 10, instant))
        self.assertEqual(rings(self.book, "red", 10, 135, 10 ** 6), ())
        self.book.move("two", 17, 20000, 1)
        self.assertEqual(next_ring(self.book, "red", 10, 135), (19990, "two", 17))
        self.assertEqual(next_ring(self.book, "red", 10000, 0), (10000, "two", 17))
        for day in (17, 24, 10):
            self.book.drop("two", day)
        self.assertIsNone(next_ring(self.book, "red", 0, 0))

    def test_guests(self):
        for person, word in (("ann", "coming"), ("bob", "absent"), ("cy", "asked")):
            self.book.invite("two", person)
            self.book.reply("two", person, word)
        self.assertEqual(rings(self.book, "ann", 1, 0, 10 ** 6), ((59, "two", 10), (101, "two", 17), (143, "two", 24)))
        self.assertEqual(next_ring(self.book, "ann", 1, 60), (101, "two", 17))
        for person in ("bob", "cy"):
            self.assertEqual(rings(self.book, person, 0, 0, 10 ** 6), ())
            self.assertIsNone(next_ring(self.book, person, 0, 0))
        self.book.reply("two", "ann", "absent")
        self.assertEqual((rings(self.book, "ann", 1, 0, 10 ** 6), next_ring(self.book, "ann", 1, 0)), ((), None))

    def test_occurrences_side_by_side(self):
        self.book.add("side", Series(PLAIN, (("days", 1), 10, NEVER), 0, 6), ("lamp",))
        self.assertEqual(rings(self.book, "lamp", 2, 58, 71), ((58, "side", 10), (64, "side", 11), (70, "side", 12)))
        for instant, day in ((58, 10), (59, 11), (64, 11), (65, 12)):
            self.assertEqual(next_ring(self.book, "lamp", 2, instant), (day * 6 - 2, "side", day))


class SearchTest(unittest.TestCase):
    """Random books, held against a plain reading of the occurrences."""

    def test_books(self):
        source = random.Random(101)
        series = samples(1011, 80, longest=6)
        found = 0
        for _ in range(60):
            book, plain = some_book(source, series)
            for _ in range(10):
                resource, lead = source.choice(RESOURCES), source.choice((0, 0, 1, 7, 60, 500))
                every = sorted((start - lead, name, day) for name, booking in plain.items() if resource in booking.has
                               for day, (start, _) in booking.days.items() if start >= lead)
                found += len(every) > 0
                start = source.randrange(1500)
                stop = start + source.choice((0, 1, 20, 300, 2000))
                expected = tuple(row for row in every if start <= row[0] < stop)
                self.assertEqual(rings(book, resource, lead, start, stop), expected)
                self.check_next(source, book, resource, lead, every)

    def check_next(self, source, book, resource, lead, every):
        instants = [source.randrange(2500) for _ in range(3)]
        instants += [row[0] + by for row in every[:40:13] for by in (-1, 0, 1) if row[0] + by >= 0]
        for instant in instants:
            later = [row for row in every if row[0] >= instant]
            found = next_ring(book, resource, lead, instant)
            if later:
                self.assertEqual(found, later[0])
            elif found is not None:
                # It lies beyond the plain table.
                self.assertGreater(found[0] + lead, 4400)
                self.assertEqual(rings(book, resource, lead, instant, found[0] + 1), (found,))


class FarTest(unittest.TestCase):
    def setUp(self):
        self.begin = time.process_time()

    def tearDown(self):
        self.assertLess(time.process_time() - self.begin, 10)

    def test_far_instants(self):
        book = Book()
        book.add("one", Series(CLOCK, (("days", 1), 100, NEVER), 540, 60), ("room",))
        book.add("leap", Series(CLOCK, (("years", 1, 2, (("day", 29),)), 100, NEVER), 700, 60), ("room", "ann"))
        for year in (2000 * 10 ** 60, 400 * 10 ** 290):
            for month, day in ((1, 15), (7, 1)):
                number = GREGORIAN.day_of(year, month, day)
                start = CLOCK.instant(number * 1440 + 540)
                for lead in (0, 15, 10000):
                    ring = (start - lead, "one", number)
                    self.assertEqual(next_ring(book, "room", lead, start - lead), ring)
                    self.assertEqual(next_ring(book, "room", lead, start - lead - 700), ring)
                    self.assertEqual(rings(book, "room", lead, start - lead, start - lead + 1), (ring,))
                    self.assertEqual(rings(book, "room", lead, start - lead + 1, start - lead + 1000), ())
                    self.assertEqual(next_ring(book, "room", lead, start - lead + 1)[2], number + 1)
            leap = GREGORIAN.day_of(year, 2, 29)
            after = GREGORIAN.day_of(year + 4, 2, 29)
            start = CLOCK.instant(leap * 1440 + 700)
            self.assertEqual(next_ring(book, "ann", 30, start - 10 ** 5), (start - 30, "leap", leap))
            self.assertEqual(next_ring(book, "ann", 30, start - 29)[1:], ("leap", after))
            self.assertEqual(len(rings(book, "room", 30, start - 10 ** 5, start + 9 * 10 ** 5)), 696)

    def test_a_long_wait(self):
        book = Book()
        book.add("rare", Series(Zone(GREGORIAN, 0), (("years", 30, 2, (("day", 29),)), 100, NEVER), 0, 1), ("room",))
        years = [year for year in range(0, 3000, 30) if GREGORIAN.is_long(year) and year > 0]
        day = GREGORIAN.day_of(years[0], 2, 29)
        self.assertEqual(next_ring(book, "room", 10, 0), (day * 1440 - 10, "rare", day))
        for year, after in zip(years, years[1:]):
            start = GREGORIAN.day_of(year, 2, 29) * 1440
            self.assertEqual(next_ring(book, "room", 10, start - 9)[2], GREGORIAN.day_of(after, 2, 29))
