"""Points 6.1, 6.2 and 6.4: bookings and guests, and the errors of a book in their order."""

import unittest

from dayspread.book import Book
from dayspread.edits import split_at, with_moved, without_day
from dayspread.errors import (Clash, DayspreadError, DuplicateName, InvalidBooking, InvalidDay, InvalidSeries,
                              SelfClash, UnknownBooking, UnknownGuest)
from dayspread.series import Series
from dayspread.spans import Spans
from dayspread.zone import Zone
from tests.plain import values
from tests.rule_samples import NEVER
from tests.samples import FAR, SMALL
from tests.span_samples import NOTHING
from tests.telling import parts_of, told

PLAIN = Zone(SMALL, 0)
LONGEST = "abcxyz012789"
GUESTS = ("ann", "bob", "cy", "dan", "eve", "flo", "gus", "hal")


def weekly(weekday, unit=0, length=2, **more):
    return Series(PLAIN, (("weeks", 1, (weekday,)), 8, NEVER), unit, length, **more)


class BookTest(unittest.TestCase):
    def setUp(self):
        """Two bookings: one with guests, dropped and moved days; the other one at other times."""
        self.book = Book()
        self.book.add("one", weekly(1, dropped=(13,), moved=((17, 500, 3),)), ("red", "blue"))
        self.book.add("two", weekly(2), ("blue",))
        for person in ("cy", "ann", "bob"):
            self.book.invite("one", person)
        self.book.reply("one", "ann", "coming")
        self.book.reply("one", "bob", "absent")

    def refused(self, error, method, *args):
        """The error is raised, it is the very one, and the book stays as it is."""
        before = told(self.book)
        with self.assertRaises(error, msg=(method, args)) as caught:
            getattr(self.book, method)(*args)
        self.assertIs(type(caught.exception), error)
        self.assertEqual(told(self.book), before)
        return caught.exception


class NamesTest(BookTest):
    """Point 6.1."""

    def test_the_errors_are_of_the_base_and_value_errors(self):
        for error in (Clash, DuplicateName, InvalidBooking, SelfClash, UnknownBooking, UnknownGuest):
            self.assertTrue(issubclass(error, DayspreadError))
            self.assertTrue(issubclass(error, ValueError))

    def test_names(self):
        for place, name in enumerate(("a", "z", "0", "9", "az09", LONGEST)):
            self.book.add(name, weekly(3), (f"free{place}",))
            self.assertIn(name, self.book.names())
        for name in ("", LONGEST + "a", "A", "a b", "a-b", "a_b", " a", "a\n", "`", "{", "/", ":", "aB", "a.b"):
            self.refused(InvalidBooking, "add", name, weekly(3), ("free",))
            self.refused(InvalidBooking, "add", "three", weekly(3), (name,))
            self.refused(InvalidBooking, "add", "three", weekly(3), ("free", name))
            self.refused(InvalidBooking, "divide", "one", 9, name)
            self.refused(InvalidBooking, "invite", "one", name)

    def test_resources(self):
        for number in (1, 2, 3, 4):
            rows = ("d", LONGEST, "b", "a0")[:number]
            self.book.add(f"n{number}", Series(PLAIN, (("days", 1), 30 * number, ("count", 1)), 0, 1), rows)
            self.assertEqual(self.book.resources(f"n{number}"), rows)
        for rows in ((), ("a", "b", "c", "d", "e"), ("a", "a"), ("a", "b", "a"), ("a", "b", "c", "a")):
            self.refused(InvalidBooking, "add", "three", weekly(3), rows)

    def test_a_resource_may_have_the_name_of_a_booking(self):
        self.book.add("three", weekly(3), ("three", "one"))
        self.assertEqual(self.book.holder("one", 11 * 6), "three")

    def test_names_are_ascending(self):
        for name in ("b", "a9", "10", "9", "zz"):
            self.book.add(name, weekly(3), (name,))
        self.assertEqual(self.book.names(), ("10", "9", "a9", "b", "one", "two", "zz"))
        self.assertEqual(Book().names(), ())


class OrderOfErrorsTest(BookTest):
    def test_add(self):
        overlapping = weekly(1, length=18, moved=((13, 54, 1),))
        self.assertIsNotNone(overlapping.self_clash())
        self.refused(InvalidBooking, "add", "", overlapping, ("red",))
        self.refused(InvalidBooking, "add", "one", overlapping, ())
        self.refused(DuplicateName, "add", "one", overlapping, ("red",))
        self.refused(DuplicateName, "add", "one", weekly(3), ("free",))
        error = self.refused(SelfClash, "add", "three", overlapping, ("red",))
        self.assertEqual(error.instant, 54)
        error = self.refused(Clash, "add", "three", weekly(1, 1), ("green", "blue"))
        self.assertEqual((error.name, error.resource, error.instant), ("one", "blue", 9 * 6 + 1))
        self.book.add("three", weekly(1, 2), ("green", "blue"))

    def test_unknown_bookings(self):
        for name in ("three", "", "One", "red", "a b"):
            self.refused(UnknownBooking, "remove", name)
            self.refused(UnknownBooking, "drop", name, 9)
            self.refused(UnknownBooking, "move", name, 9, -1, 0)
            self.refused(UnknownBooking, "divide", name, 9, "")
            self.refused(UnknownBooking, "invite", name, "")
            self.refused(UnknownBooking, "reply", name, "nobody", "maybe")
            for method in ("series", "resources", "guests"):
                self.refused(UnknownBooking, method, name)

    def test_drop(self):
        for day in (13, 10, 5, 1, -1, FAR * 4):
            self.refused(InvalidDay, "drop", "one", day)
        self.refused(InvalidSeries, "drop", "one", 2009)
        full = Series(PLAIN, (("days", 1), 10, NEVER), 0, 1, dropped=tuple(range(10, 50)))
        self.book.add("full", full, ("free",))
        self.refused(InvalidSeries, "drop", "full", 50)
        self.refused(InvalidDay, "drop", "full", 49)

    def test_move(self):
        for day in (13, 10, 5, 1, -1):
            self.refused(InvalidDay, "move", "one", day, -1, 0)
        self.refused(InvalidSeries, "move", "one", 9, -1, 1)
        self.refused(InvalidSeries, "move", "one", 9, 4008 * 6 + 1, 1)
        self.refused(InvalidSeries, "move", "one", 9, 5, 0)
        self.refused(InvalidSeries, "move", "one", 9, 5, 19)
        self.refused(InvalidSeries, "move", "one", 2009, 126, 9)
        # From 121 on the occurrence meets that of day 21 of its own at 126, and that of "two" on day 22 at 132.
        self.assertEqual(self.refused(SelfClash, "move", "one", 9, 121, 18).instant, 126)
        error = self.refused(Clash, "move", "one", 9, 130, 4)
        self.assertEqual((error.name, error.resource, error.instant), ("two", "blue", 132))
        self.book.move("one", 9, 128, 4)
        self.assertEqual(self.book.series("one").occurrence(9), (128, 132))

    def test_divide(self):
        self.refused(InvalidBooking, "divide", "one", 1, "")
        self.refused(InvalidBooking, "divide", "one", 1, "A")
        self.refused(DuplicateName, "divide", "one", 1, "two")
        self.refused(DuplicateName, "divide", "one", 13, "one")
        for day in (9, 10, 1, -1, 2013, FAR):
            self.refused(InvalidDay, "divide", "one", day, "new")

    def test_invite(self):
        for person in ("ann", "bob", "cy", "red", "blue"):
            self.refused(DuplicateName, "invite", "one", person)
        for person in ("", "A", LONGEST + "a"):
            self.refused(InvalidBooking, "invite", "one", person)
        for person in ("d", "e", "f", "g", "h"):
            self.book.invite("one", person)
        self.refused(InvalidBooking, "invite", "one", "i")
        # A guest or a resource is told before the number of guests is.
        for person in ("ann", "h", "red"):
            self.refused(DuplicateName, "invite", "one", person)
        self.refused(InvalidBooking, "invite", "one", "")

    def test_reply(self):
        for person in ("dan", "red", "", "A", "one"):
            for word in ("coming", "maybe", ""):
                self.refused(UnknownGuest, "reply", "one", person, word)
        self.refused(UnknownGuest, "reply", "two", "ann", "coming")
        for word in ("", "Coming", "maybe", "asked ", "come"):
            self.refused(InvalidBooking, "reply", "one", "ann", word)
        self.book.add("three", weekly(1), ("cy",))
        self.refused(InvalidBooking, "reply", "one", "cy", "maybe")
        error = self.refused(Clash, "reply", "one", "cy", "coming")
        self.assertEqual((error.name, error.resource, error.instant), ("three", "cy", 54))
        for word in ("absent", "asked"):
            self.book.reply("one", "cy", word)


class ChangesTest(BookTest):
    def test_add(self):
        series = weekly(3)
        self.book.add("three", series, ("red", "green"))
        self.assertEqual(self.book.names(), ("one", "three", "two"))
        self.assertEqual(parts_of(self.book.series("three")), parts_of(series))
        self.assertEqual((self.book.resources("three"), self.book.guests("three")), (("red", "green"), ()))
        self.assertEqual(self.book.holder("green", 11 * 6), "three")

    def test_remove(self):
        self.book.remove("one")
        self.assertEqual(self.book.names(), ("two",))
        self.refused(UnknownBooking, "series", "one")
        self.refused(UnknownBooking, "remove", "one")
        self.assertEqual([values(self.book.busy(name)) for name in ("red", "ann")], [NOTHING] * 2)
        # The name and the times are free again, and the new booking has no guests.
        self.book.add("one", weekly(1), ("red", "ann"))
        self.assertEqual(self.book.guests("one"), ())

    def test_drop(self):
        kept = told(self.book)
        self.book.drop("one", 21)
        self.book.drop("one", 17)
        self.assertEqual((self.book.series("one").dropped, self.book.series("one").moved), ((13, 17, 21), ()))
        self.assertEqual((self.book.resources("one"), self.book.guests("one")), kept["one"][1:])
        self.assertEqual(told(self.book)["two"], kept["two"])
        self.assertEqual([self.book.holder("red", instant) for instant in (54, 126, 500, 150)],
                         ["one", None, None, "one"])
        self.refused(InvalidDay, "drop", "one", 21)

    def test_move(self):
        kept = told(self.book)
        self.book.move("one", 9, 0, 18)
        self.book.move("one", 17, 4008 * 6, 1)
        self.assertEqual(self.book.series("one").moved, ((9, 0, 18), (17, 4008 * 6, 1)))
        self.assertEqual((self.book.resources("one"), self.book.guests("one")), kept["one"][1:])
        self.assertEqual([self.book.holder("ann", instant) for instant in (54, 0, 17, 18, 500, 4008 * 6)],
                         [None, "one", "one", None, None, "one"])

    def test_a_move_meets_only_other_bookings(self):
        # The changed series is not held against the booking as it was.
        self.book.move("one", 17, 501, 3)
        self.book.move("one", 9, 55, 2)
        self.book.move("one", 9, 54, 4)
        self.assertEqual(self.book.series("one").occurrence(9), (54, 58))

    def test_divide(self):
        guests = self.book.guests("one")
        series = self.book.series("one")
        self.book.divide("one", 17, "new")
        early, late = split_at(series, 17)
        self.assertEqual(parts_of(self.book.series("one")), parts_of(early))
        self.assertEqual(parts_of(self.book.series("new")), parts_of(late))
        for name in ("one", "new"):
            self.assertEqual((self.book.resources(name), self.book.guests(name)), (("red", "blue"), guests))
        self.assertEqual([self.book.holder("ann", instant) for instant in (54, 500, 126)], ["one", "new", "new"])
        # From now on the guests of the two are their own.
        self.book.reply("new", "ann", "absent")
        self.book.invite("one", "dan")
        self.assertEqual(self.book.guests("one"),
                         (("ann", "coming"), ("bob", "absent"), ("cy", "asked"), ("dan", "asked")))
        self.assertEqual(self.book.guests("new"), (("ann", "absent"), ("bob", "absent"), ("cy", "asked")))
        self.book.divide("new", 21, "newer")
        self.assertEqual(self.book.names(), ("new", "newer", "one", "two"))

    def test_edits_as_of_a_series(self):
        series = self.book.series("one")
        self.book.drop("one", 21)
        self.book.move("one", 25, 30, 3)
        expected = with_moved(without_day(series, 21), 25, 30, 3)
        self.assertEqual(parts_of(self.book.series("one")), parts_of(expected))


class GuestsTest(BookTest):
    """Point 6.4."""

    def test_words(self):
        self.assertEqual(self.book.guests("one"), (("ann", "coming"), ("bob", "absent"), ("cy", "asked")))
        self.assertEqual(self.book.guests("two"), ())
        self.assertEqual(self.book.resources("one"), ("red", "blue"))
        for word in ("absent", "asked", "coming", "coming", "asked", "asked", "absent", "absent"):
            self.book.reply("one", "bob", word)
            self.assertEqual(dict(self.book.guests("one"))["bob"], word)
        self.assertEqual(self.book.guests("one"), (("ann", "coming"), ("bob", "absent"), ("cy", "asked")))

    def test_only_who_is_coming_is_held(self):
        for person, word in (("ann", "coming"), ("bob", "absent"), ("cy", "asked")):
            held = word == "coming"
            self.assertEqual(self.book.holder(person, 54), "one" if held else None)
            self.assertEqual(values(self.book.busy(person)), values(self.book.busy("red")) if held else NOTHING)
            self.assertEqual(self.book.agenda(person, 50, 60), ((54, 56, "one", 9),) if held else ())
        for word, held in (("absent", False), ("coming", True), ("asked", False)):
            self.book.reply("one", "ann", word)
            self.assertEqual(self.book.holder("ann", 54), "one" if held else None)

    def test_eight_guests(self):
        for person in ("dan", "eve", "flo", "gus", "hal"):
            self.book.invite("one", person)
        self.assertEqual(tuple(person for person, _ in self.book.guests("one")), GUESTS)
        self.refused(InvalidBooking, "invite", "one", "ida")
        for person in GUESTS:
            self.book.reply("one", person, "coming")
        self.assertEqual(self.book.guests("one"), tuple((person, "coming") for person in GUESTS))
        self.assertEqual([self.book.holder(person, 54) for person in GUESTS], ["one"] * 8)
        self.book.divide("one", 17, "new")
        for name in ("one", "new"):
            self.refused(InvalidBooking, "invite", name, "ida")
        self.book.remove("one")
        self.book.add("one", weekly(3), ("red",))
        for person in ("z", *GUESTS[:7]):
            self.book.invite("one", person)
        self.refused(InvalidBooking, "invite", "one", "ida")

    def test_a_guest_may_be_a_resource_elsewhere(self):
        self.book.invite("two", "red")
        self.assertEqual(self.book.guests("two"), (("red", "asked"),))
        self.book.reply("two", "red", "coming")
        self.assertEqual([self.book.holder("red", instant) for instant in (54, 60)], ["one", "two"])

    def test_an_asked_guest_may_be_held_elsewhere(self):
        self.book.add("three", weekly(1), ("dan",))
        self.book.invite("one", "dan")
        self.refused(Clash, "reply", "one", "dan", "coming")
        self.book.drop("three", 9)
        error = self.refused(Clash, "reply", "one", "dan", "coming")
        self.assertEqual((error.name, error.resource, error.instant), ("three", "dan", 21 * 6))
        self.book.remove("three")
        self.book.reply("one", "dan", "coming")
        error = self.refused(Clash, "add", "three", weekly(1), ("dan",))
        self.assertEqual((error.name, error.resource, error.instant), ("one", "dan", 54))
        self.book.reply("one", "dan", "coming")

    def test_drop_and_move_keep_guests(self):
        guests = self.book.guests("one")
        self.book.drop("one", 21)
        self.book.move("one", 25, 30, 3)
        self.assertEqual(self.book.guests("one"), guests)


class QuestionsTest(BookTest):
    def test_a_free_resource(self):
        for resource in ("free", "bob", "cy", "one", "", "A B"):
            self.assertEqual(values(self.book.busy(resource)), NOTHING)
            self.assertIsNone(self.book.holder(resource, 54))
            self.assertEqual(self.book.agenda(resource, 0, 10 ** 6), ())

    def test_busy(self):
        one, two = self.book.series("one").spans(), self.book.series("two").spans()
        found = self.book.busy("blue")
        self.assertIs(type(found), Spans)
        self.assertEqual(values(found), values(one | two))
        self.assertEqual(values(self.book.busy("red")), values(one))
        for instant in (*range(700), *range(FAR, FAR + 50)):
            self.assertIs(instant in found, self.book.holder("blue", instant) is not None)
            self.assertEqual(self.book.holder("blue", instant), "one" if instant in one else
                             "two" if instant in two else None)

    def test_agenda(self):
        rows = [(start, end, name, day) for name in ("one", "two")
                for start, end, day in self.book.series(name).occurrences(0, 1000)]
        for start, stop in ((0, 0), (0, 1), (54, 55), (55, 55), (55, 56), (56, 60), (50, 61), (499, 504), (0, 1000)):
            expected = sorted(row for row in rows if any(row[0] <= t < row[1] for t in range(start, stop)))
            found = self.book.agenda("blue", start, stop)
            self.assertEqual(found, tuple(expected))
            self.assertIs(type(found), tuple)
        self.assertEqual(self.book.agenda("blue", 50, 90),
                         ((54, 56, "one", 9), (60, 62, "two", 10), (84, 86, "two", 14)))
        far = FAR * 24
        self.assertEqual(self.book.agenda("ann", far, far + 24), ((far + 6, far + 8, "one", FAR * 4 + 1),))

    def test_answers_are_of_plain_kinds(self):
        for answer in (self.book.names(), self.book.resources("one"), self.book.guests("one"), self.book.guests("two"),
                       self.book.guests("one")[0], self.book.agenda("red", 0, 100), self.book.agenda("red", 0, 100)[0]):
            self.assertIs(type(answer), tuple)


class CopyTest(BookTest):
    def test_changes_of_one_do_not_change_the_other(self):
        kept = told(self.book)
        changes = (("remove", "two"), ("drop", "one", 21), ("move", "one", 9, 30, 1), ("divide", "one", 17, "new"),
                   ("invite", "one", "dan"), ("reply", "one", "cy", "coming"), ("add", "three", weekly(3), ("red",)))
        for changed_is_copy in (True, False):
            for method, *args in changes:
                copy = self.book.copy()
                self.assertIs(type(copy), Book)
                self.assertEqual(told(copy), kept)
                changed, other = (copy, self.book) if changed_is_copy else (self.book, copy)
                getattr(changed, method)(*args)
                self.assertNotEqual(told(changed), kept)
                self.assertEqual(told(other), kept)
                self.setUp()

    def test_a_copy_of_an_empty_book(self):
        copy = Book().copy()
        copy.add("one", weekly(1), ("red",))
        self.assertEqual((copy.names(), Book().names()), (("one",), ()))
