"""Points 11.1 and 11.2: books as text."""

import random
import unittest

from dayspread.book import Book
from dayspread.errors import Clash, DayspreadError, InvalidLine, SelfClash
from dayspread.exchange import read_book, write_book
from dayspread.series import Series
from dayspread.zone import Zone
from tests.paper_samples import some_guests
from tests.rule_samples import NEVER
from tests.samples import GREGORIAN, SMALL
from tests.series_samples import ZONES, samples
from tests.telling import told
from tests.zone_samples import CLOCK

PLAIN = Zone(SMALL, 0)

# Two bookings, with all lines that there are; the second one has only those that it must have.
TEXT = """booking one red blue
rule every 1 weeks on 1 from 8
at 2 for 3
dropped 13 33
moved 17 500 3
moved 21 126 1
guest ann coming
guest bob absent
guest cy asked
end
booking two blue
rule every 8 days from 10 count 3
at 0 for 6
end"""
LINES = TEXT.split("\n")


def weekly(weekday, unit=0, length=2, **more):
    return Series(PLAIN, (("weeks", 1, (weekday,)), 8, NEVER), unit, length, **more)


def sample_book():
    book = Book()
    book.add("two", Series(PLAIN, (("days", 8), 10, ("count", 3)), 0, 6), ("blue",))
    book.add("one", weekly(1, 2, 3, dropped=(13, 33), moved=((17, 500, 3), (21, 126, 1))), ("red", "blue"))
    for person, word in (("cy", "asked"), ("bob", "absent"), ("ann", "coming")):
        book.invite("one", person)
        book.reply("one", person, word)
    return book


class WriteTest(unittest.TestCase):
    def test_by_hand(self):
        self.assertEqual(write_book(sample_book()), TEXT)
        self.assertEqual(write_book(Book()), "")

    def test_rules(self):
        book = Book()
        for name, rule, length in (
                ("b", (("weeks", 2, (1, 3)), 14, ("count", 10)), 1), ("10", (("days", 30), 2, ("until", 2002)), 18),
                ("9", (("months", 1, (("back", 1), ("weekday", 2, 0))), 31, NEVER), 2),
                ("a", (("years", 4, 3, (("weekback", 1, 2), ("day", 4))), 20000, NEVER), 3)):
            book.add(name, Series(PLAIN, rule, 5, length), (name, f"r{name}"))
        self.assertEqual(write_book(book), "\n".join((
            "booking 10 10 r10", "rule every 30 days from 2 until 2002", "at 5 for 18", "end",
            "booking 9 9 r9", "rule every 1 months at back:1 weekday:2:0 from 31", "at 5 for 2", "end",
            "booking a a ra", "rule every 4 years in 3 at weekback:1:2 day:4 from 20000", "at 5 for 3", "end",
            "booking b b rb", "rule every 2 weeks on 1 3 from 14 count 10", "at 5 for 1", "end")))

    def test_changed_bookings(self):
        book = sample_book()
        book.remove("two")
        book.drop("one", 17)
        book.move("one", 9, 0, 18)
        book.divide("one", 25, "new")
        self.assertEqual(write_book(book), "\n".join((
            "booking new red blue", "rule every 1 weeks on 1 from 25", "at 2 for 3", "dropped 33",
            "guest ann coming", "guest bob absent", "guest cy asked", "end",
            "booking one red blue", "rule every 1 weeks on 1 from 8 until 24", "at 2 for 3", "dropped 13 17",
            "moved 9 0 18", "moved 21 126 1", "guest ann coming", "guest bob absent", "guest cy asked", "end")))


class ReadTest(unittest.TestCase):
    def test_by_hand(self):
        self.assertEqual(told(read_book(PLAIN, TEXT)), told(sample_book()))
        self.assertEqual(read_book(PLAIN, "").names(), ())

    def test_other_orders(self):
        """The bookings, the dropped days, the lines "moved" and the lines "guest" may stand in any order."""
        lines = [*LINES[10:], *LINES[:3], "dropped 33 13", LINES[5], LINES[4], LINES[8], LINES[6], LINES[7], "end"]
        book = read_book(PLAIN, "\n".join(lines))
        self.assertEqual(told(book), told(sample_book()))
        self.assertEqual(write_book(book), TEXT)

    def test_lines_that_may_be_left_out(self):
        for left_out in ((3,), (4, 5), (6, 7, 8), (3, 4, 5), (3, 6, 7, 8), (4, 5, 6, 7, 8), (5, 8), (3, 4, 5, 6, 7, 8)):
            text = "\n".join(line for place, line in enumerate(LINES) if place not in left_out)
            self.assertEqual(write_book(read_book(PLAIN, text)), text)

    def test_the_book_can_be_changed_and_asked(self):
        book = read_book(PLAIN, TEXT)
        self.assertEqual(book.agenda("ann", 54, 130), ((56, 59, "one", 9), (126, 127, "one", 21)))
        self.assertEqual((book.holder("blue", 60), book.holder("bob", 56)), ("two", None))
        book.drop("one", 9)
        book.reply("one", "cy", "coming")
        self.assertIsNone(book.holder("cy", 56))

    def test_the_zone_is_that_of_the_reader(self):
        for zone in (Zone(SMALL, 3), ZONES[4], ZONES[7]):
            book = read_book(zone, "booking one red\nrule every 1 weeks on 1 from 8\nat 2 for 3\nend")
            expected = Series(zone, (("weeks", 1, (1,)), 8, NEVER), 2, 3)
            self.assertEqual(book.series("one").occurrences(0, 900), expected.occurrences(0, 900))
        text = "booking one red\nrule every 1 years in 2 at day:29 from 60\nat 1439 for 4320\nend"
        book = read_book(CLOCK, text)
        self.assertEqual(book.series("one").zone.offset, 60)
        self.assertEqual(write_book(book), text)
        with self.assertRaises(InvalidLine):
            read_book(PLAIN, text)

    def test_what_was_written_is_read(self):
        source = random.Random(111)
        series = samples(1111, 80, longest=9)
        many = 0
        for round_number in range(60):
            zone = ZONES[round_number % len(ZONES)]
            book = Book()
            for number in range(source.randint(1, 6)):
                sample = source.choice(series)
                name = source.choice((f"b{number}", f"{number}b", f"{10 - number}"))
                resources = tuple(source.sample(("red", "blue", "green", "lamp", "desk", "0"), source.randint(1, 4)))
                try:
                    book.add(name, Series(zone, sample.rule, sample.unit, sample.length, dropped=sample.dropped,
                                          moved=sample.moved), resources)
                    some_guests(source, book, name)
                except (SelfClash, Clash):
                    continue
            text = write_book(book)
            again = read_book(zone, text)
            self.assertEqual((told(again), write_book(again)), (told(book), text))
            many += len(book.names())
        self.assertGreater(many, 80)

    def test_a_long_text(self):
        lines = []
        for number in range(1450):
            lines += [f"booking b{number:04} r{number}", "rule every 1 days from 2 count 1", "at 0 for 1", "end"]
        text = "\n".join(lines)
        self.assertLess(len(text), 10 ** 5)
        self.assertEqual(write_book(read_book(PLAIN, text)), text)
        days = " ".join(str(day) for day in range(9, 5 * 10 ** 4, 4))
        with self.assertRaises(InvalidLine) as caught:
            read_book(PLAIN, TEXT.replace("dropped 13 33", f"dropped {days}"))
        self.assertEqual(caught.exception.line, 1)


class MistakesTest(unittest.TestCase):
    """Each mistake is told by the number of a line."""

    def refused(self, number, text, zone=PLAIN):
        with self.assertRaises(DayspreadError, msg=text) as caught:
            read_book(zone, text)
        self.assertIs(type(caught.exception), InvalidLine)
        self.assertEqual(caught.exception.line, number, text)

    def with_line(self, place, *lines):
        """The text with other lines in place of that with this number."""
        return "\n".join([*LINES[:place - 1], *lines, *LINES[place:]])

    def bad(self, number, *lines):
        """These lines have no form of a line that may stand in place of that with this number."""
        for line in lines:
            self.refused(number, self.with_line(number, line))

    def test_booking_lines(self):
        for number in (1, 11):
            self.bad(number, "booking", "booking one", "booking one ", "booking  one red", "booking one red ",
                     " booking a b", "booking one  red", "Booking one red", "bookings one red", "booking\tone red",
                     "booking,one red", "", " ", "end", "at 0 for 1", "rule every 1 days from 2", "guest ann coming",
                     "dropped 13", "moved 1 2 3")
            # What follows the word may be no name: that is told behind the line "end".
            for line in ("booking One red", "booking one\tx red", "booking one red red", "booking . red",
                         "booking one x y z a b", "booking abcdefghijklm red", "booking one Red",
                         "booking one red-blue"):
                self.refused(number, self.with_line(number, line))
            self.assertIn("rule", read_book(PLAIN, self.with_line(number, "booking rule at")).names())
        # The line itself is told, not the one behind the text, and not a later one that is wrong, too.
        for line in ("booking one", "booking one ", "booking  one red", "booking one  red", "booking"):
            self.refused(1, line)
            self.refused(1, f"{line}\nx")
        self.refused(2, "booking One red")
        self.refused(2, "booking One red\nx")

    def test_rule_lines(self):
        for number in (2, 12):
            self.bad(number, "rule", "rule ", "rule every 1 weeks on 1 from 1", "rule every 0 days from 10", "",
                     "rules", "rule every 1 weeks on 4 from 8", "rule every 1 weeks on 1 from 8 ",
                     "rule  every 1 weeks on 1 from 8", "rule every 1 weeks on 1  from 8",
                     "rule every 01 weeks on 1 from 8", "rule every 1 weeks on 1 from 08",
                     "rule every 1 weeks on 2 1 from 8", "rule every 1 years in 4 at day:1 from 8",
                     "rule\tevery 1 days from 8", "rule every 1 weeks on 1 from 8 count 61",
                     "rule every 1 weeks on 1 from 8 until 7", "rule every 1 weeks on 1 from 8 until 2009",
                     "rule every 1 months at day:61 from 8", "rule every 1 days", "every 1 weeks on 1 from 8",
                     "at 2 for 3", "end", "booking one red", "Rule every 1 weeks on 1 from 8",
                     "rule every 1 weeks on 1\tfrom 8", "rule every -1 days from 8")
        # A rule that is one, but of no series here, is told behind the line "end".
        for line in ("rule every 1 weeks on 1 from 20004", f"rule every 1 weeks on 1 from {10 ** 299}",
                     "rule every 1 weeks on 2 from 8", "rule every 1 weeks on 1 from 17"):
            self.refused(1, self.with_line(2, line))
        self.refused(11, self.with_line(12, "rule every 7 days from 20001 count 3"))

    def test_at_lines(self):
        for number in (3, 13):
            self.bad(number, "at", "at 2", "at 2 for", "at 2 for 3 4", "at 2 to 3", "at 02 for 3", "at 2 for 03",
                     "at two for 3", "at 2  for 3", "at 2 for 3 ", " at 2 for 3", "at -2 for 3", "at +2 for 3",
                     "at 2 for 3.0", "at\t2 for 3", "at 2 for\t3", "", "end", "At 2 for 3", "dropped 13",
                     "moved 17 500 3", "guest ann coming", "rule every 1 days from 2", "at 2 FOR 3", "at 2 for 00",
                     "at 1_0 for 3")
        for line in ("at 6 for 3", "at 2 for 0", "at 2 for 19", f"at {10 ** 299} for 3", f"at 2 for {10 ** 299}"):
            self.refused(1, self.with_line(3, line))
            self.refused(11, self.with_line(13, line))
        self.refused(1, self.with_line(3, "at 2 for 18").replace("moved 21 126 1", "moved 21 80 3"))

    def test_dropped_lines(self):
        self.bad(4, "dropped", "dropped ", "dropped 13 ", "dropped  13", "dropped 13  33", "dropped 013", "dropped x",
                 "dropped 13 x", "dropped 13,33", "dropped -13", "Dropped 13", "drop 13", "", "booking a b",
                 "at 2 for 3", "rule every 1 days from 2", "dropped\t13", "dropped 13\t33")
        for line in ("dropped 13 13", "dropped 14", "dropped 5", "dropped 17", "dropped 0", "dropped 2009",
                     "dropped 2013", f"dropped {10 ** 299}",
                     "dropped " + " ".join(str(day) for day in range(25, 200, 4))):
            self.refused(1, self.with_line(4, line))
        # A second line, or one behind a line "moved" or "guest", may not stand there.
        self.refused(5, self.with_line(4, "dropped 13", "dropped 33"))
        self.refused(6, self.with_line(5, LINES[4], "dropped 37"))
        self.refused(7, self.with_line(7, "dropped 37"))
        self.refused(5, "\n".join([*LINES[:3], *LINES[4:5], LINES[3], *LINES[5:]]))
        self.refused(10, self.with_line(10, "dropped 37", "end"))

    def test_moved_lines(self):
        for number in (5, 6):
            self.bad(number, "moved", "moved 17", "moved 17 500", "moved 17 500 3 4", "moved 17 500 03",
                     "moved 017 500 3", "moved 17  500 3", "moved 17 500 3 ", "moved 17 500 x", "moved 17 -1 3",
                     "move 17 500 3", "", "booking a b", "moved\t17 500 3", "moved 17 500\t3")
            for line in ("moved 18 500 3", "moved 13 500 3", "moved 17 500 0", "moved 17 500 19", "moved 17 24049 1",
                         "moved 2013 500 3", f"moved 17 {10 ** 299} 3", f"moved {10 ** 299} 500 3",
                         f"moved 25 500 {10 ** 299}", "moved 17 56 1", "moved 5 500 3"):
                self.refused(1, self.with_line(number, line))
        self.refused(1, self.with_line(6, "moved 17 126 1"))
        self.refused(1, self.with_line(6, LINES[5], LINES[5]))
        # Behind a line "guest" no such line may stand.
        self.refused(8, self.with_line(7, LINES[6], "moved 25 156 1"))
        self.refused(10, self.with_line(10, "moved 25 156 1", "end"))
        many = [f"moved {day} {day * 6} 1" for day in range(25, 25 + 4 * 39, 4) if day != 33]
        self.assertEqual(len(many), 38)
        read_book(PLAIN, self.with_line(6, LINES[5], *many))
        self.refused(1, self.with_line(6, LINES[5], *many, "moved 401 2406 1"))

    def test_guest_lines(self):
        for number in (7, 8, 9):
            self.bad(number, "guest", "guest ann", "guest ann coming now", "guest ann Coming", "guest ann come",
                     "guest ann  coming", "guest ann coming ", "guest  ann coming", "guest coming", "guest  coming",
                     "guests ann coming", "Guest ann coming", "", "booking a b", "dropped 13", "guest ann\tcoming",
                     "guest\tann coming", "at 2 for 3")
            for line in ("guest Ann asked", "guest ann.b absent", "guest red asked", "guest blue coming",
                         "guest abcdefghijklm asked", "guest d\te asked"):
                self.refused(1, self.with_line(number, line))
        self.refused(1, self.with_line(8, "guest ann coming"))
        self.refused(1, self.with_line(9, "guest bob asked"))
        eight = [f"guest g{number} asked" for number in range(5)]
        self.assertEqual(len(read_book(PLAIN, self.with_line(9, LINES[8], *eight)).guests("one")), 8)
        self.refused(1, self.with_line(9, LINES[8], *eight, "guest g9 asked"))
        self.refused(13, self.with_line(9, LINES[8], *eight[:3], "guest"))

    def test_end_lines(self):
        for number in (10, 14):
            self.bad(number, "end ", " end", "end 1", "End", "ends", "", "booking three x", "rule every 1 days from 2",
                     "end\t", "at 2 for 3")
        # At once behind the line "at" the booking may end; not earlier.
        self.refused(2, self.with_line(2, "end"))
        self.refused(3, self.with_line(3, "end"))

    def test_behind_the_end(self):
        for line in ("end", "", " ", "rule every 1 days from 2", "moved 17 500 3", "guest ann asked", "dropped 13",
                     "x"):
            self.refused(15, TEXT + "\n" + line)
            self.refused(11, self.with_line(10, "end", line))
        self.refused(15, TEXT + "\n")
        self.refused(15, TEXT + "\n\n")
        for text in ("\n", " ", "\n" + TEXT, "end", "x", "\t", "\n\n"):
            self.refused(1, text)

    def test_texts_cut_behind_each_line(self):
        for many in range(1, len(LINES)):
            text = "\n".join(LINES[:many])
            if many == 10:
                self.assertEqual(read_book(PLAIN, text).names(), ("one",))
            else:
                self.refused(many + 1, text)
            # With a newline at the end there is one more line, which is empty.
            self.refused(many + 1, text + "\n")

    def test_bookings_that_cannot_be_added(self):
        self.refused(11, self.with_line(11, "booking one blue"))
        self.refused(11, self.with_line(12, "rule every 8 days from 9 count 3"))
        # Of two bookings that hold the same the later one is told, in whatever order they stand.
        clash = ["booking two red", "rule every 1 weeks on 1 from 41", "at 4 for 1", "end"]
        self.refused(11, "\n".join([*LINES[:10], *clash]))
        self.refused(5, "\n".join([*clash, *LINES[:10]]))
        held = ["booking two ann", *clash[1:]]
        self.refused(11, "\n".join([*LINES[:10], *held]))
        # Here the guest cannot come, since the other booking holds him already.
        self.refused(5, "\n".join([*held, *LINES[:10]]))
        for lines in ([*held, *LINES[:6], *LINES[7:10]], ["booking two bob", *clash[1:], *LINES[:10]]):
            self.assertEqual(read_book(PLAIN, "\n".join(lines)).names(), ("one", "two"))

    def test_the_first_mistake_is_told(self):
        # The booking is put into the book at its line "end": a later line is not read any more.
        self.refused(1, self.with_line(3, "at 6 for 3") + "\nx")
        self.refused(4, self.with_line(3, "at 6 for 3", "dropped"))
        self.refused(10, self.with_line(3, "at 6 for 3").replace("\nend\nbooking", "\nEnd\nbooking"))
        self.refused(1, self.with_line(3, "at 6 for 3").replace("booking two blue", "booking one"))

    def test_other_calendars(self):
        text = "booking one red\nrule every 1 weeks on 5 from 8\nat 700 for 60\nend"
        self.refused(2, text)
        self.assertEqual(read_book(Zone(GREGORIAN, 0), text).names(), ("one",))
        self.refused(1, text.replace("on 5", "on 2"))
