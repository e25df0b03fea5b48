"""Point 4.1: rows of spans, held against a plain test of each instant."""

import random
import unittest

from dayspread.segments import common, cut, gaps, merged
from tests.plain import tidy
from tests.samples import FAR

BOUND = 24


def instants(spans):
    return [instant for start, end in spans for instant in range(start, end)]


def some_spans(source, many):
    """Spans in any order; short and long ones, and some of them twice."""
    spans = []
    for _ in range(source.randint(0, many)):
        start = source.randrange(BOUND)
        spans.append((start, min(BOUND, start + source.choice((1, 1, 2, 3, BOUND)))))
        if source.random() < 0.2:
            spans.append(source.choice(spans))
    return spans


class SegmentsTest(unittest.TestCase):
    def setUp(self):
        source = random.Random(41)
        self.rows = [some_spans(source, 7) for _ in range(150)]
        self.tidy_rows = [tidy(instants(row)) for row in self.rows]

    def is_row(self, found, expected):
        self.assertEqual(found, expected)
        self.assertIs(type(found), tuple)
        self.assertTrue(all(type(span) is tuple for span in found))

    def test_merged(self):
        for row in self.rows:
            for spans in (row, row[::-1], tuple(row)):
                kept = list(spans)
                self.is_row(merged(spans), tidy(instants(spans)))
                self.assertEqual(list(spans), kept)

    def test_merged_of_known_rows(self):
        self.is_row(merged([]), ())
        self.is_row(merged(()), ())
        self.is_row(merged([(5, 9)]), ((5, 9),))
        self.is_row(merged([(5, 9), (5, 9), (5, 9)]), ((5, 9),))
        self.is_row(merged([(9, 12), (5, 9)]), ((5, 12),))
        self.is_row(merged([(10, 12), (5, 9)]), ((5, 9), (10, 12)))
        self.is_row(merged([(0, 20), (3, 5), (19, 21), (7, 8)]), ((0, 21),))
        self.is_row(merged([(0, 20), (3, 5), (5, 7)]), ((0, 20),))
        self.is_row(merged([(4, 5), (0, 1), (2, 3)]), ((0, 1), (2, 3), (4, 5)))

    def test_merged_leaves_tidy_rows(self):
        for row in self.tidy_rows:
            self.is_row(merged(row), row)
            self.is_row(merged(list(row)), row)

    def test_far_spans(self):
        row = [(FAR + 5, FAR + 9), (3, 4), (FAR, FAR + 5), (FAR + 10, 2 * FAR)]
        rows = ((3, 4), (FAR, FAR + 9), (FAR + 10, 2 * FAR))
        self.is_row(merged(row), rows)
        self.is_row(cut(rows, FAR + 2, FAR + 11), ((FAR + 2, FAR + 9), (FAR + 10, FAR + 11)))
        self.is_row(cut(rows, 0, 3 * FAR), rows)
        self.is_row(gaps(rows, 0, 3 * FAR), ((0, 3), (4, FAR), (FAR + 9, FAR + 10), (2 * FAR, 3 * FAR)))
        self.is_row(common(rows, ((0, FAR + 1), (2 * FAR - 1, 2 * FAR + 1))),
                    ((3, 4), (FAR, FAR + 1), (2 * FAR - 1, 2 * FAR)))

    def each_bound(self):
        for start in range(BOUND + 3):
            for stop in range(start, BOUND + 3):
                yield start, stop

    def test_cut_and_gaps(self):
        for row in self.tidy_rows[::4]:
            inside = set(instants(row))
            for spans in (row, list(row)):
                kept = list(spans)
                for start, stop in self.each_bound():
                    within = [t for t in range(start, stop) if t in inside]
                    outside = [t for t in range(start, stop) if t not in inside]
                    self.is_row(cut(spans, start, stop), tidy(within))
                    self.is_row(gaps(spans, start, stop), tidy(outside))
                self.assertEqual(list(spans), kept)

    def test_bounds_that_are_alike(self):
        for spans in ((), ((3, 8),), ((0, 1), (5, 6))):
            for bound in (0, 1, 3, 5, 8, 9, FAR):
                self.is_row(cut(spans, bound, bound), ())
                self.is_row(gaps(spans, bound, bound), ())

    def test_cut_and_gaps_of_known_rows(self):
        row = ((3, 8), (10, 11), (14, 20))
        self.is_row(cut(row, 3, 8), ((3, 8),))
        self.is_row(cut(row, 8, 10), ())
        self.is_row(cut(row, 20, 30), ())
        self.is_row(cut(row, 7, 15), ((7, 8), (10, 11), (14, 15)))
        self.is_row(cut(row, 4, 6), ((4, 6),))
        self.is_row(gaps(row, 3, 8), ())
        self.is_row(gaps(row, 8, 10), ((8, 10),))
        self.is_row(gaps(row, 7, 15), ((8, 10), (11, 14)))
        self.is_row(gaps(row, 0, 30), ((0, 3), (8, 10), (11, 14), (20, 30)))
        self.is_row(gaps((), 2, 5), ((2, 5),))

    def test_common(self):
        for one in self.tidy_rows:
            for two in self.tidy_rows[::9]:
                both = tidy(set(instants(one)) & set(instants(two)))
                self.is_row(common(one, two), both)
                self.is_row(common(two, list(one)), both)

    def test_common_of_known_rows(self):
        self.is_row(common((), ((0, 5),)), ())
        self.is_row(common(((0, 5),), ()), ())
        self.is_row(common(((0, 5),), ((5, 9),)), ())
        self.is_row(common(((0, 6),), ((5, 9),)), ((5, 6),))
        self.is_row(common([(0, 9)], [(1, 2), (4, 5), (8, 12)]), ((1, 2), (4, 5), (8, 9)))
        first, second = [(0, 9), (12, 20)], [(1, 2), (8, 15)]
        common(first, second)
        self.assertEqual((first, second), ([(0, 9), (12, 20)], [(1, 2), (8, 15)]))
