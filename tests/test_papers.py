"""Points 7.2 to 7.4: blocks, rows of blocks and certificates."""

import random
import unittest

from dayspread.book import Book
from dayspread.finder import find
from dayspread.needs import Need, is_possible
from dayspread.papers import covers_from, is_certificate, is_right
from dayspread.series import Series
from dayspread.spans import Spans
from dayspread.zone import Zone
from tests import plain_papers
from tests.paper_samples import REACH, some_book, some_need
from tests.rule_samples import NEVER
from tests.samples import FAR, SMALL
from tests.series_samples import samples

PLAIN = Zone(SMALL, 0)
# All instants but 30 and those from 33 to 35.
HOURS = ~Spans(((30, 31), (33, 36)), 36, 1, ())


def weekly_book():
    """A booking of days 9, 13 and so on, of 3 units each; another one of one day, with a guest who comes."""
    book = Book()
    weekly = Series(PLAIN, (("weeks", 1, (1,)), 8, NEVER), 2, 3, dropped=(13,), moved=((17, 1, 2), (21, 600, 4)))
    book.add("one", weekly, ("red", "blue"))
    book.add("two", Series(PLAIN, (("days", 1), 11, ("count", 1)), 0, 6), ("lamp",))
    for person in ("ann", "bob", "red"):
        book.invite("two", person)
    book.reply("two", "ann", "coming")
    book.reply("two", "bob", "absent")
    return book


class BlockTest(unittest.TestCase):
    def setUp(self):
        self.book = weekly_book()

    def held(self, need, rows):
        """Holds is_right against rows (a, b, reason, expected)."""
        for a, b, reason, expected in rows:
            self.assertIs(is_right(self.book, need, (a, b, reason)), expected, (a, b, reason))

    def bounds(self, need, reason, least, greatest):
        """The block from `least` to `greatest` is right, and none beyond it on either side."""
        rows = [(least, greatest, reason, True), (least - 1, greatest, reason, False),
                (least + 1, greatest, reason, least + 1 < greatest),
                (least, greatest - 1, reason, least < greatest - 1),
                (least, greatest + 1, reason, False), (least - 1, greatest + 1, reason, False),
                (least, least + 1, reason, True), (greatest - 1, greatest, reason, True),
                (least - 1, least, reason, False), (greatest, greatest + 1, reason, False),
                (least - 7, least - 3, reason, False), (greatest + 3, greatest + 5, reason, False)]
        self.held(need, rows)

    def test_bounds_of_hours(self):
        for length, least in ((1, 30), (2, 29), (4, 27), (30, 1), (31, 0)):
            for before, after in ((0, 0), (5, 0), (0, 7), (3, 2)):
                need = Need(("red",), length, hours=HOURS, before=before, after=after)
                self.bounds(need, ("hours", 30), least, 31)
        self.bounds(Need(("red",), 4, hours=HOURS), ("hours", 34), 31, 35)
        self.bounds(Need(("red",), 4, hours=HOURS), ("hours", 33), 30, 34)

    def test_instants_within_the_hours(self):
        need = Need(("red",), 4, hours=HOURS)
        for instant in (29, 31, 32, 36, 0, FAR):
            self.held(need, [(instant, instant + 1, ("hours", instant), False)])
        self.held(Need(("red",), 4), [(30, 31, ("hours", 30), False)])
        never = Need(("red",), 4, hours=Spans((), 0, 1, ()))
        self.held(never, [(30, 31, ("hours", 30), True), (FAR - 3, FAR + 1, ("hours", FAR), True),
                          (FAR - 4, FAR + 1, ("hours", FAR), False), (0, 1, ("hours", 0), True)])

    def test_hours_below_zero(self):
        never = Need(("red",), 4, hours=Spans((), 0, 1, ()))
        self.held(never, [(-1, 0, ("hours", -1), False), (-3, 0, ("hours", -1), False),
                          (-3, 1, ("hours", 0), True), (-4, 1, ("hours", 0), False), (-3, -1, ("hours", 0), True),
                          (-FAR - 1, -FAR, ("hours", -FAR), False)])

    def test_bounds_of_occurrences(self):
        # The occurrence of day 9 holds the instants 56 to 58.
        for length in (1, 2, 5):
            for before in (0, 1, 20):
                for after in (0, 1, 20):
                    need = Need(("red",), length, before=before, after=after)
                    self.bounds(need, ("busy", "one", 9), 57 - length - after, 59 + before)
        self.bounds(Need(("red",), 10000, before=10000, after=10000), ("busy", "one", 9), 57 - 20000, 10059)

    def test_moved_days(self):
        need = Need(("blue",), 2, before=3, after=1)
        # They are held where they were moved to: day 17 holds the instants 1 and 2, day 21 those from 600 to 603.
        self.bounds(need, ("busy", "one", 17), -1, 6)
        self.bounds(need, ("busy", "one", 21), 598, 607)
        self.held(need, [(104, 105, ("busy", "one", 17), False), (128, 129, ("busy", "one", 21), False)])

    def test_days_without_an_occurrence(self):
        need = Need(("red", "lamp"), 2)
        for name, day in (("one", 13), ("one", 10), ("one", 5), ("one", 1), ("one", 0), ("one", -1), ("one", -4),
                          ("one", -FAR), ("two", 10), ("two", 12), ("two", FAR)):
            start = day * 6
            self.held(need, [(start, start + 1, ("busy", name, day), False), (56, 57, ("busy", name, day), False)])

    def test_names(self):
        need = Need(("red",), 2)
        self.held(need, [(56, 57, ("busy", "one", 9), True)])
        for name in ("three", "", "red", "ONE", "one ", "a name that is none", "two"):
            self.held(need, [(56, 57, ("busy", name, 9), False)])

    def test_who_has_the_booking(self):
        self.held(Need(("lamp",), 1), [(66, 72, ("busy", "two", 11), True)])
        # A coming guest has it; who is asked or absent does not, and neither does a resource of another booking.
        for resources, expected in ((("ann",), True), (("bob",), False), (("red",), False), (("blue",), False),
                                    (("free",), False), (("bob", "red", "ann"), True), (("free", "lamp"), True)):
            self.held(Need(resources, 1), [(66, 72, ("busy", "two", 11), expected)])
        self.book.reply("two", "bob", "coming")
        self.held(Need(("bob",), 1), [(66, 72, ("busy", "two", 11), True)])
        self.book.reply("two", "ann", "asked")
        self.held(Need(("ann",), 1), [(66, 72, ("busy", "two", 11), False)])

    def test_changes_of_the_book(self):
        need = Need(("red",), 1)
        block = (56, 59, ("busy", "one", 9))
        self.held(need, [(*block, True)])
        self.book.move("one", 9, 57, 3)
        self.held(need, [(*block, False), (57, 60, ("busy", "one", 9), True)])
        self.book.drop("one", 9)
        self.held(need, [(57, 60, ("busy", "one", 9), False)])
        self.held(need, [(150, 151, ("busy", "one", 25), False), (152, 155, ("busy", "one", 25), True)])
        self.book.divide("one", 25, "late")
        self.held(need, [(152, 155, ("busy", "one", 25), False), (152, 155, ("busy", "late", 25), True)])
        self.book.remove("late")
        self.held(need, [(152, 155, ("busy", "late", 25), False)])

    def test_what_is_no_block(self):
        need = Need(("red",), 4, hours=HOURS)
        for a, b in ((30, 30), (31, 30), (30, 29), (29, -1), (40, 0)):
            self.held(need, [(a, b, ("hours", 30), False)])
        for a, b in ((57, 57), (58, 57), (57, 0), (FAR, -FAR)):
            self.held(need, [(a, b, ("busy", "one", 9), False)])

    def test_far_blocks(self):
        need = Need(("red",), 4, before=2, after=1)
        day = (FAR // 4) * 4 + 1
        start = day * 6 + 2
        self.bounds(need, ("busy", "one", day), start - 4, start + 5)
        self.held(need, [(start, start + 1, ("busy", "one", day + 1), False)])

    def test_the_start_of_the_need_does_not_matter(self):
        self.held(Need(("red",), 1, start=1000), [(56, 59, ("busy", "one", 9), True)])


class SoundTest(unittest.TestCase):
    """Random blocks, held against the words of the document; no instant within a right one is possible."""

    def test_blocks(self):
        source = random.Random(72)
        series = samples(721, 60, longest=6)
        right = 0
        for _ in range(25):
            book, plain = some_book(source, series)
            for _ in range(12):
                need, words = some_need(source, (0, 0, 40))
                for _ in range(30):
                    block = self.some_block(source, plain)
                    expected = plain_papers.is_right(plain, words, block)
                    self.assertIs(is_right(book, need, block), expected, block)
                    if expected:
                        right += 1
                        for instant in range(block[0], block[1]):
                            self.assertFalse(is_possible(book, need, instant))
        self.assertGreater(right, 300)

    def some_block(self, source, plain):
        if plain and source.random() < 0.6:
            name = source.choice(sorted(plain))
            day = source.choice([*plain[name].days, 3]) if source.random() < 0.9 else source.randint(-2, 60)
            near = plain[name].days.get(day, (50, 51))[0]
            reason = ("busy", source.choice((name, name, name, "b0", "none")), day)
        else:
            near = source.randint(-2, 120)
            reason = ("hours", near)
        a = near + source.randint(-20, 20)
        return a, a + source.randint(-1, 12), reason


class RowTest(unittest.TestCase):
    def covers(self, expected, bounds, start, stop):
        blocks = tuple((a, b, ("hours", 0)) for a, b in bounds)
        self.assertIs(covers_from(blocks, start, stop), expected, (bounds, start, stop))

    def test_the_empty_row(self):
        for at in (0, 1, -1, 7, FAR, -FAR):
            self.covers(True, (), at, at)
            self.covers(False, (), at, at + 1)
            self.covers(False, (), at + 1, at)
            self.covers(False, (), at, -at - 1)

    def test_one_block(self):
        for a, b in ((0, 1), (3, 9), (-5, -2), (-1, 1), (FAR, FAR + 10)):
            self.covers(True, ((a, b),), a, b)
            for start, stop in ((a - 1, b), (a + 1, b), (a, b + 1), (a, b - 1), (a, a), (b, b), (b, a), (a - 1, b - 1)):
                self.covers(False, ((a, b),), start, stop)

    def test_more_blocks(self):
        self.covers(True, ((0, 3), (3, 4), (4, 90)), 0, 90)
        self.covers(True, ((-4, 3), (3, 4)), -4, 4)
        # A gap, an overlap, another order, a wrong first and a wrong last end.
        for bounds in (((0, 3), (4, 5), (5, 90)), ((0, 3), (2, 5), (5, 90)), ((3, 5), (0, 3), (5, 90)),
                       ((0, 3), (3, 5), (5, 89)), ((0, 3), (3, 5), (5, 91)), ((1, 3), (3, 5), (5, 90)),
                       ((-1, 3), (3, 5), (5, 90)), ((0, 3), (0, 3), (3, 90)), ((0, 3), (3, 90), (3, 90)),
                       ((0, 90), (0, 90))):
            self.covers(False, bounds, 0, 90)

    def test_what_is_no_block(self):
        for bounds in (((0, 0),), ((0, 3), (3, 3)), ((0, 0), (0, 3)), ((0, 5), (5, 3)), ((0, 4), (4, 2), (2, 3)),
                       ((0, -1), (-1, 3)), ((3, 0), (0, 3))):
            self.covers(False, bounds, 0, 3)
            self.covers(False, bounds, bounds[0][0], bounds[-1][1])

    def test_start_above_stop(self):
        self.covers(False, ((5, 3),), 5, 3)
        self.covers(False, ((5, 6), (6, 3)), 5, 3)
        self.covers(False, ((3, 5),), 5, 3)

    def test_reasons_are_not_looked_at(self):
        blocks = ((0, 2, ("busy", "nothing", -5)), (2, 5, ("hours", -1)))
        self.assertIs(covers_from(blocks, 0, 5), True)

    def test_many_blocks(self):
        blocks = tuple((at, at + 1, ("hours", at)) for at in range(FAR, FAR + 10 ** 5))
        self.assertIs(covers_from(blocks, FAR, FAR + 10 ** 5), True)
        self.assertIs(covers_from(blocks, FAR, FAR + 10 ** 5 - 1), False)
        self.assertIs(covers_from(blocks[:500] + blocks[501:], FAR, FAR + 10 ** 5), False)


class ForgedTest(unittest.TestCase):
    """Certificates of `find` with each part altered a little, judged by the words of the document."""

    def test_forged_certificates(self):
        source = random.Random(74)
        series = samples(741, 60, longest=6)
        counts = {("found", True): 0, ("found", False): 0, ("never", True): 0, ("never", False): 0}
        for _ in range(30):
            book, plain = some_book(source, series)
            for _ in range(4):
                need, words = some_need(source, (0, 7, 300))
                hours = (need.hours.since, need.hours.period)
                found = find(book, need)
                if found[-1] and found[-1][-1][1] > REACH:
                    continue
                for certificate in [found, *self.forged(source, found)]:
                    expected = plain_papers.is_certificate(plain, words, hours, certificate)
                    self.assertIs(is_certificate(book, need, certificate), expected, (need.__dict__, certificate))
                    counts[certificate[0], expected] += 1
        self.assertGreater(min(counts.values()), 30, counts)

    def forged(self, source, certificate):
        blocks = certificate[-1]
        for place in range(1, len(certificate) - 1):
            for number in (certificate[place] - 1, certificate[place] + 1, certificate[place] * 2,
                           certificate[place] // 2):
                if certificate[0] == "found" or place == 1 or number > 0:
                    yield (*certificate[:place], number, *certificate[place + 1:])
        for _ in range(12 if blocks else 0):
            place = source.randrange(len(blocks))
            a, b, reason = blocks[place]
            others = source.choice(((), ((a - 1, b, reason),), ((a, b + 1, reason),), ((a, b - 1, reason),),
                                    ((a, b, (*reason[:-1], reason[-1] + 1)),), ((a, b, ("busy", "b1", reason[-1])),),
                                    ((a, b, ("hours", b - 1)),), ((a, a + 1, reason), (a + 1, b, reason))))
            yield (*certificate[:-1], (*blocks[:place], *others, *blocks[place + 1:]))
