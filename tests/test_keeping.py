"""Point 0.2: later changes to a series that was given or told change nothing in a book."""

import unittest

from dayspread.book import Book
from dayspread.series import Series
from dayspread.zone import Zone
from tests.plain import values
from tests.rule_samples import NEVER
from tests.samples import SMALL
from tests.telling import parts_of, told

PLAIN = Zone(SMALL, 0)


def weekly():
    return Series(PLAIN, (("weeks", 1, (1,)), 8, NEVER), 2, 3, dropped=(13,), moved=((17, 500, 3),))


def alter(series):
    series.rule, series.unit, series.length = (("days", 1), 2, NEVER), 5, 1
    series.dropped, series.moved = (), ()


class KeepingTest(unittest.TestCase):
    def setUp(self):
        self.series = weekly()
        self.book = Book()
        self.book.add("one", self.series, ("red",))

    def unchanged(self, book):
        self.assertEqual(told(book), {"one": (parts_of(weekly()), ("red",), ())})
        self.assertEqual(values(book.busy("red")), values(weekly().spans()))
        self.assertEqual(book.agenda("red", 0, 600), tuple((start, end, "one", day) for start, end, day
                                                           in weekly().occurrences(0, 600)))

    def test_the_series_that_was_given(self):
        alter(self.series)
        self.unchanged(self.book)
        self.book.drop("one", 9)
        self.assertEqual(self.book.series("one").dropped, (9, 13))
        self.assertEqual(self.book.series("one").unit, 2)

    def test_a_series_that_was_told(self):
        copy = self.book.copy()
        for book in (self.book, copy, self.book, copy):
            alter(book.series("one"))
            self.unchanged(self.book)
            self.unchanged(copy)

    def test_the_same_series_is_told_again(self):
        self.assertIs(self.book.series("one"), self.book.series("one"))

    def test_series_of_changed_bookings(self):
        self.book.move("one", 9, 57, 3)
        self.book.divide("one", 25, "two")
        kept = told(self.book)
        for name in ("one", "two"):
            alter(self.book.series(name))
        self.assertEqual(told(self.book), kept)
        self.assertEqual(self.book.holder("red", 152), "two")

    def test_copies_of_series(self):
        copy = self.series.copy()
        self.assertEqual(parts_of(copy), parts_of(self.series))
        self.assertEqual((copy.self_clash(), copy.settled()), (self.series.self_clash(), self.series.settled()))
        alter(self.series)
        self.assertEqual(parts_of(copy), parts_of(weekly()))
