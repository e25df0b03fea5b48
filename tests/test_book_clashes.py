"""Points 6.2 to 6.4: clashes, held against a search instant by instant."""

import random
import time
import unittest

from dayspread.book import Book
from dayspread.errors import Clash, SelfClash
from dayspread.series import Series
from dayspread.zone import Zone
from tests.rule_samples import NEVER
from tests.samples import GREGORIAN, SMALL
from tests.series_samples import samples
from tests.zone_samples import CLOCK, SOUTH

# All samples come again after this number of units at the latest, from an instant that is not above it.
PERIOD = 64 * 6 * 6
REACH = 2 * PERIOD
RESOURCES = ("red", "blue", "green", "lamp", "desk")


class PlainBook:
    """Bookings of samples: by name what each covers instant by instant, and what it holds."""

    def __init__(self):
        self.covered = {}
        self.resources = {}
        self.coming = {}

    def holds(self, name):
        return (*self.resources[name], *sorted(self.coming[name]))

    def clash(self, name, counts, held):
        """The triple (instant, resource, name of the other booking), or None."""
        others = [other for other in self.covered if other != name and set(self.holds(other)) & set(held)]
        for instant in sorted(t for t in counts if t < REACH):
            for resource in held:
                for other in others:
                    if instant in self.covered[other] and resource in self.holds(other):
                        return instant, resource, other
        return None

    def add(self, name, counts, resources):
        self.covered[name], self.resources[name], self.coming[name] = counts, resources, []


def shared_instant(counts):
    return min((t for t, count in counts.items() if count > 1), default=None)


class SearchTest(unittest.TestCase):
    """Random books of samples with all kinds of patterns, ends and zones."""

    def setUp(self):
        self.samples = [sample for sample in samples(61, 150, longest=4) if max(sample.settled()) <= PERIOD]
        self.source = random.Random(62)
        self.results = []

    def change(self, expected, method, *args):
        """Makes a change, of which it is expected whether it clashes; returns True if it is made."""
        try:
            method(*args)
        except SelfClash as error:
            found = error.instant
        except Clash as error:
            found = (error.instant, error.resource, error.name)
        else:
            found = None
        self.assertEqual(found, expected, args)
        self.results.append(expected)
        return found is None

    def some_names(self, most):
        return tuple(self.source.sample(RESOURCES, self.source.randint(1, most)))

    def test_samples_fit(self):
        self.assertGreater(len(self.samples), 120)

    def test_bookings_are_added_and_guests_come(self):
        book, plain = Book(), PlainBook()
        for number, sample in enumerate(self.samples):
            if number % 12 == 0:
                book, plain = Book(), PlainBook()
            name, resources = f"b{number}", self.some_names(2)
            expected = shared_instant(sample.counts)
            if expected is None:
                expected = plain.clash(name, sample.counts, resources)
            if self.change(expected, book.add, name, sample.series(), resources):
                plain.add(name, sample.counts, resources)
            self.some_guest_comes(book, plain)
            self.held(book, plain)
        made = self.results.count(None)
        self.assertTrue(made > 50 and len(self.results) - made > 50, self.results)

    def some_guest_comes(self, book, plain):
        name = self.source.choice(sorted(plain.covered) or [""])
        person = self.source.choice(RESOURCES)
        if not name or person in plain.resources[name]:
            return
        if person not in dict(book.guests(name)):
            book.invite(name, person)
        expected = plain.clash(name, plain.covered[name], (person,))
        if self.change(expected, book.reply, name, person, "coming"):
            plain.coming[name] = sorted({*plain.coming[name], person})

    def held(self, book, plain):
        """Holds holder, busy and agenda against the plain book."""
        for resource in self.source.sample(RESOURCES, 2):
            names = [name for name in plain.covered if resource in plain.holds(name)]
            busy = book.busy(resource)
            for instant in self.source.sample(range(900), 60):
                holder = [name for name in names if instant in plain.covered[name]]
                self.assertTrue(len(holder) <= 1)
                self.assertEqual(book.holder(resource, instant), holder[0] if holder else None)
                self.assertIs(instant in busy, bool(holder))
            start = self.source.randrange(900)
            rows = [(low, high, name, day) for name in names
                    for low, high, day in book.series(name).occurrences(0, 2000) if low < start + 50 and high > start]
            self.assertEqual(book.agenda(resource, start, start + 50), tuple(sorted(rows)))

    def test_days_are_moved(self):
        for number in range(0, len(self.samples) - 6, 6):
            book, plain = Book(), PlainBook()
            for place, sample in enumerate(self.samples[number:number + 6]):
                resources = self.some_names(2)
                expected = shared_instant(sample.counts)
                if expected is None:
                    expected = plain.clash("", sample.counts, resources)
                if self.change(expected, book.add, f"b{place}", sample.series(), resources):
                    plain.add(f"b{place}", sample.counts, resources)
                    self.some_guest_comes(book, plain)
            for place, sample in enumerate(self.samples[number:number + 6]):
                days = [day for _, _, day in sample.rows if day < 90]
                if f"b{place}" in plain.covered and days:
                    self.move(book, plain, f"b{place}", sample, self.source.choice(days))
        made = self.results.count(None)
        self.assertTrue(made > 50 and len(self.results) - made > 50, self.results)

    def move(self, book, plain, name, sample, day):
        start, length = self.source.randrange(400), self.source.randint(1, 18)
        counts = {}
        for low, high in [(start, start + length)] + [row[:2] for row in sample.rows if row[2] != day]:
            for instant in range(low, high):
                counts[instant] = counts.get(instant, 0) + 1
        expected = shared_instant(counts)
        if expected is None:
            expected = plain.clash(name, counts, plain.holds(name))
        before = book.series(name).moved
        if self.change(expected, book.move, name, day, start, length):
            plain.covered[name] = counts
            self.assertEqual(book.series(name).occurrence(day), (start, start + length))
        else:
            self.assertEqual(book.series(name).moved, before)


class ResourceTest(unittest.TestCase):
    """Point 6.3: which resource and which booking are told."""

    def setUp(self):
        self.zone = Zone(SMALL, 0)
        self.book = Book()
        for name, weekday, resources in (("one", 1, ("red", "blue")), ("two", 1, ("lamp",)), ("three", 2, ("green",))):
            self.book.add(name, self.series((weekday,)), resources)

    def series(self, weekdays, unit=0, length=2):
        return Series(self.zone, (("weeks", 1, weekdays), 8, NEVER), unit, length)

    def clash(self, method, *args):
        with self.assertRaises(Clash) as caught:
            method(*args)
        return caught.exception.name, caught.exception.resource, caught.exception.instant

    def test_the_first_of_the_tuple(self):
        both = self.series((1, 2))
        for resources, expected in ((("red",), ("one", "red", 54)), (("blue", "red"), ("one", "blue", 54)),
                                    (("lamp", "red"), ("two", "lamp", 54)), (("red", "lamp"), ("one", "red", 54)),
                                    (("green", "lamp"), ("two", "lamp", 54)), (("green",), ("three", "green", 60)),
                                    (("free", "green", "blue"), ("one", "blue", 54)),
                                    (("free", "green"), ("three", "green", 60))):
            self.assertEqual(self.clash(self.book.add, "new", both, resources), expected)

    def test_coming_guests_follow_the_resources(self):
        self.book.add("new", self.series((3,)), ("free",))
        for person in ("zoe", "red", "lamp"):
            self.book.invite("new", person)
            self.book.reply("new", person, "coming")
        self.assertEqual(self.clash(self.book.move, "new", 11, 54, 1), ("two", "lamp", 54))
        self.book.reply("new", "lamp", "asked")
        self.assertEqual(self.clash(self.book.move, "new", 11, 54, 1), ("one", "red", 54))
        self.book.reply("new", "red", "absent")
        self.book.add("four", self.series((1,)), ("zoe",))
        self.assertEqual(self.clash(self.book.move, "new", 11, 55, 1), ("four", "zoe", 55))
        self.book.invite("three", "free")
        self.book.reply("three", "free", "coming")
        self.assertEqual(self.clash(self.book.move, "new", 11, 55, 6), ("four", "zoe", 55))
        self.assertEqual(self.clash(self.book.move, "new", 11, 56, 6), ("three", "free", 60))

    def test_a_guest_of_another_booking(self):
        self.book.invite("one", "ann")
        self.book.add("free", self.series((1,)), ("ann",))
        self.assertEqual(self.clash(self.book.reply, "one", "ann", "coming"), ("free", "ann", 54))
        self.book.remove("free")
        self.book.reply("one", "ann", "coming")
        self.assertEqual(self.clash(self.book.add, "new", self.series((0, 1)), ("bob", "ann")), ("one", "ann", 54))
        self.book.invite("two", "ann")
        self.assertEqual(self.clash(self.book.reply, "two", "ann", "coming"), ("one", "ann", 54))
        self.book.reply("one", "ann", "absent")
        self.book.reply("two", "ann", "coming")
        self.assertEqual(self.clash(self.book.reply, "one", "ann", "coming"), ("two", "ann", 54))

    def test_other_resources_do_not_clash(self):
        self.book.add("new", self.series((1, 2)), ("a", "b", "c", "d"))
        self.assertEqual(self.book.holder("a", 54), "new")


class LateTest(unittest.TestCase):
    """Clashes that come late, or never; none is found by a way through all days."""

    def setUp(self):
        self.begin = time.process_time()

    def tearDown(self):
        self.assertLess(time.process_time() - self.begin, 30)

    def clash(self, first, second):
        """The instant of the clash of two series, which is the same in both orders; None if there is none."""
        instants = []
        for one, two in ((first, second), (second, first)):
            book = Book()
            book.add("one", one, ("room",))
            try:
                book.add("two", two, ("room",))
            except Clash as error:
                self.assertEqual((error.name, error.resource), ("one", "room"))
                instants.append(error.instant)
            else:
                instants.append(None)
        self.assertEqual(instants[0], instants[1])
        return instants[0]

    def test_a_leap_day_on_a_weekday(self):
        plain = Zone(GREGORIAN, 0)
        leaps = Series(plain, (("years", 1, 2, (("day", 29),)), 10, NEVER), 600, 60)
        for weekday in range(7):
            weekly = Series(plain, (("weeks", 1, (weekday,)), 10, NEVER), 600, 60)
            year = next(year for year in range(0, 400, 4) if GREGORIAN.is_long(year)
                        and GREGORIAN.day_of(year, 2, 29) % 7 == weekday)
            self.assertEqual(self.clash(leaps, weekly), GREGORIAN.day_of(year, 2, 29) * 1440 + 600)
            later = Series(plain, (("weeks", 1, (weekday,)), 10, NEVER), 660, 60)
            self.assertIsNone(self.clash(leaps, later))
            self.assertIsNone(self.clash(later, weekly))

    def test_steps_without_a_common_divisor(self):
        zone = Zone(SMALL, 0)
        first = Series(zone, (("days", 29), 2, NEVER), 0, 1)
        for every in (28, 30, 23, 27, 19):
            for start in (3, 11, 30):
                second = Series(zone, (("days", every), start, NEVER), 0, 1)
                day = next(day for day in range(start, start + 29 * 30) if (day - 2) % 29 == 0
                           and (day - start) % every == 0)
                self.assertEqual(self.clash(first, second), day * 6)
        for every, start in ((2, 3), (30, 17), (10, 11)):
            self.assertIsNone(self.clash(Series(zone, (("days", 4), 4, NEVER), 5, 1),
                                         Series(zone, (("days", every), start, NEVER), 5, 1)))

    def test_a_month_end_and_steps_of_days(self):
        plain = Zone(GREGORIAN, 0)
        leaps = Series(plain, (("years", 4, 2, (("day", 29),)), 10, NEVER), 0, 1440)
        steps = Series(plain, (("days", 25), 20000, NEVER), 1439, 1)
        day = next(GREGORIAN.day_of(year, 2, 29) for year in range(4, 10 ** 5, 4) if GREGORIAN.is_long(year)
                   and GREGORIAN.day_of(year, 2, 29) >= 20000 and (GREGORIAN.day_of(year, 2, 29) - 20000) % 25 == 0)
        self.assertEqual(self.clash(leaps, steps), day * 1440 + 1439)

    def test_clocks(self):
        first = Series(CLOCK, (("days", 1), 100, NEVER), 60, 60)
        second = Series(CLOCK, (("days", 1), 100, NEVER), 120, 60)
        self.assertIsNone(self.clash(first, Series(CLOCK, (("days", 1), 100, NEVER), 180, 60)))
        # Where the clock goes on, the local time 120 comes together with 180; and where it goes back, the local
        # times from 120 to 179 come twice, so the one occurrence ends before the other one starts.
        switch = GREGORIAN.day_of(1, 3, 31) // 7 * 7
        self.assertEqual(CLOCK.instant(switch * 1440 + 120), CLOCK.instant(switch * 1440 + 180))
        late = Series(CLOCK, (("days", 1), 310, NEVER), 180, 60)
        self.assertEqual(self.clash(second, late), switch * 1440 + 60)
        self.assertIsNone(self.clash(first, second))
        # By a clock without summer time the same hours meet as soon as it is summer.
        third = Series(Zone(GREGORIAN, 60), (("days", 1), 100, NEVER), 120, 60)
        self.assertEqual(self.clash(late, third), switch * 1440 + 60)
        self.assertEqual(self.clash(Series(CLOCK, (("days", 1), 100, NEVER), 180, 60), third), 100 * 1440 + 60)
        north = Series(CLOCK, (("weeks", 1, (1,)), 100, NEVER), 700, 90)
        south = Series(SOUTH, (("weeks", 1, (1,)), 100, NEVER), 400, 5)
        instants = {t for start, end, _ in north.occurrences(0, 10 ** 6) for t in range(start, end)}
        both = [t for start, end, _ in south.occurrences(0, 10 ** 6) for t in range(start, end) if t in instants]
        self.assertEqual(self.clash(north, south), both[0] if both else None)

    def test_many_bookings_of_every_day(self):
        book = Book()
        for number in range(4):
            series = Series(CLOCK, (("days", 1), 100 + number, NEVER), 600 + 60 * number, 60)
            book.add(f"b{number}", series, ("room", f"r{number}"))
        with self.assertRaises(Clash) as caught:
            book.add("new", Series(CLOCK, (("days", 1), 20000, NEVER), 839, 60), ("room",))
        self.assertEqual(caught.exception.name, "b3")
        book.add("new", Series(CLOCK, (("days", 1), 20000, NEVER), 840, 60), ("room",))
        self.assertEqual(book.busy("room").measure(10 ** 60, 10 ** 60 + 146097 * 1440), 146097 * 300)

    def test_a_late_moved_day(self):
        plain = Zone(GREGORIAN, 0)
        book = Book()
        book.add("one", Series(plain, (("days", 7), 19997, NEVER), 0, 60), ("room",))
        book.add("two", Series(plain, (("days", 7), 20000, NEVER), 0, 60), ("room",))
        with self.assertRaises(Clash) as caught:
            book.move("two", 20000, 24000 * 1440, 4320)
        self.assertEqual((caught.exception.name, caught.exception.instant), ("one", 24001 * 1440))
        book.move("two", 20000, 24000 * 1440, 1440)
        self.assertEqual([book.holder("room", 24001 * 1440 + unit) for unit in (-1, 0)], ["two", "one"])
