"""Points 4.1 and 4.2, and what is asked of a single span set."""

import unittest

from dayspread.errors import DayspreadError, InvalidSpans
from dayspread.spans import Spans
from tests.plain import belongs, normal_form, tidy, values
from tests.samples import FAR
from tests.span_samples import ALL, EVENS, NOTHING, ODD_ONES, some_sets

SETS = (*ODD_ONES, *some_sets(42, 200))


class ValuesTest(unittest.TestCase):
    """Point 4.1: what describes a span set."""

    def refused(self, *told):
        with self.assertRaises(InvalidSpans, msg=told) as caught:
            Spans(*told)
        self.assertIs(type(caught.exception), InvalidSpans)

    def test_the_error_is_of_the_base_and_a_value_error(self):
        self.assertTrue(issubclass(InvalidSpans, DayspreadError))
        self.assertTrue(issubclass(InvalidSpans, ValueError))

    def test_since_and_period(self):
        for since in (-1, -FAR):
            self.refused((), since, 1, ())
        for period in (0, -1, -FAR):
            self.refused((), 0, period, ())
        self.assertEqual(values(Spans((), 0, 1, ())), NOTHING)

    def test_spans_of_the_head(self):
        for span in ((-1, 3), (-2, -1), (0, 8), (7, 8), (8, 9), (3, 3), (4, 3), (0, 0), (7, 7), (FAR, FAR + 1)):
            self.refused((span,), 7, 5, ())
            self.refused([(1, 2), span], 7, 5, ())
            self.refused([span, (1, 2)], 7, 5, ((0, 5),))
        self.refused(((0, 1),), 0, 5, ())
        self.assertEqual(values(Spans(((0, 7),), 7, 5, ())), (((0, 7),), 7, 1, ()))

    def test_spans_of_the_cycle(self):
        for span in ((-1, 3), (-2, -1), (0, 6), (5, 6), (6, 7), (3, 3), (4, 3), (0, 0), (5, 5), (FAR, FAR + 1)):
            self.refused((), 7, 5, (span,))
            self.refused([(0, 7)], 7, 5, [(1, 2), span])
            self.refused((), 0, 5, [span, (1, 2)])
        self.refused((), 0, 1, ((0, 2),))
        self.assertEqual(values(Spans((), 7, 5, ((0, 5),))), ((), 7, 1, ((0, 1),)))

    def test_lists_and_tuples(self):
        head, cycle = [(4, 6), (1, 2), (1, 3)], [(3, 4), (0, 2), (1, 2)]
        for first, second in ((head, cycle), (tuple(head), cycle), (head, tuple(cycle)), (tuple(head), tuple(cycle))):
            spans = Spans(first, 6, 7, second)
            self.assertEqual(values(spans), values(Spans(((1, 3), (4, 6)), 6, 7, ((0, 2), (3, 4)))))
        self.assertEqual((head, cycle), ([(4, 6), (1, 2), (1, 3)], [(3, 4), (0, 2), (1, 2)]))

    def test_later_changes_of_an_argument(self):
        head, cycle = [(4, 6), (1, 2)], [(3, 4)]
        spans = Spans(head, 6, 7, cycle)
        kept = values(spans)
        head.append((0, 1))
        cycle.clear()
        self.assertEqual(values(spans), kept)
        self.assertTrue(all(type(row) is tuple for row in (spans.head, spans.cycle)))


class NormalFormTest(unittest.TestCase):
    """Point 4.2."""

    def test_examples_of_the_document(self):
        for told in (NOTHING, ((), 9, 4, ()), ((), 0, 3, ())):
            self.assertEqual(values(Spans(*told)), NOTHING)
        for told in (ALL, ((), 0, 4, ((0, 4),)), (((0, 9),), 9, 1, ((0, 1),)),
                     (((3, 9), (0, 3)), 9, 2, ((1, 2), (0, 1)))):
            self.assertEqual(values(Spans(*told)), ALL)
        for told in ((((5, 10),), 10, 1, ()), (((5, 10),), 99, 7, ()), (((7, 10), (5, 8)), 12, 3, ())):
            self.assertEqual(values(Spans(*told)), (((5, 10),), 10, 1, ()))
        for told in (((), 6, 2, ((0, 1),)), ((), 5, 2, ((1, 2),)), (((6, 7), (8, 9)), 10, 2, ((0, 1),)),
                     (((6, 7),), 7, 6, ((1, 2), (3, 4), (5, 6)))):
            self.assertEqual(values(Spans(*told)), ((), 5, 2, ((1, 2),)))

    def test_held_against_the_definition(self):
        for told in SETS:
            expected = normal_form(lambda t: belongs(told, t), told[1], told[2])
            self.assertEqual(values(Spans(*told)), expected, told)

    def test_a_set_made_of_the_attributes_of_another(self):
        for told in SETS:
            spans = Spans(*told)
            self.assertEqual(values(Spans(*values(spans))), values(spans))

    def test_one_set_told_in_many_ways(self):
        for told in SETS:
            expected = values(Spans(*told))
            head, since, period, cycle = told
            for turns in (2, 3, 6):
                rows = [(start + period * turn, end + period * turn) for turn in range(turns) for start, end in cycle]
                self.assertEqual(values(Spans(head, since, period * turns, rows[::-1])), expected)
            for later in (1, 2, period, period + 1, 20):
                rows = tidy(t for t in range(since + later) if belongs(told, t))
                turned = tidy(t for t in range(period) if belongs(told, since + later + t))
                self.assertEqual(values(Spans(rows, since + later, period, turned)), expected)
            split = [(t, t + 1) for start, end in cycle for t in range(start, end)]
            self.assertEqual(values(Spans(head, since, period, [*split[::-1], *cycle])), expected)

    def test_a_long_cycle_without_a_shorter_one(self):
        cycle = [(10 * k, 10 * k + 3) for k in range(1000)]
        self.assertEqual(values(Spans((), 0, 10000, cycle)), ((), 0, 10, ((0, 3),)))
        cycle[700] = (7000, 7004)
        self.assertEqual(values(Spans((), 0, 10000, cycle)), ((), 0, 10000, tuple(cycle)))
        self.assertEqual(values(Spans((), 0, 10001, cycle))[2], 10001)
        # Twelve spans of two kinds that come again after four, six or all of them.
        for kinds, period in (("aabbaabbaabb", 40), ("aaaaabaaaaab", 60), ("abababababab", 20), ("aabaabaabaab", 30),
                              ("abaabaabaaba", 30), ("abbabbabbabb", 30), ("aaaaaaaaaaab", 120), ("aaaaaaaaaaaa", 10), ("aabaabaabaaa", 120)):
            rows = [(10 * k, 10 * k + (3 if kind == "a" else 5)) for k, kind in enumerate(kinds)]
            self.assertEqual(Spans((), 0, 120, rows).period, period, kinds)


class QuestionsTest(unittest.TestCase):
    def test_membership(self):
        for told in SETS:
            spans = Spans(*told)
            for instant in range(60):
                self.assertIs(instant in spans, belongs(told, instant), (told, instant))
            for instant in (10 ** 9, FAR, FAR + 1, FAR + 7, 10 ** 299):
                self.assertIs(instant in spans, belongs(told, instant), (told, instant))
                self.assertIs(instant not in spans, not belongs(told, instant))

    def test_equality(self):
        for told in SETS:
            spans = Spans(*told)
            for other in SETS[::6]:
                same = all(belongs(told, t) == belongs(other, t) for t in range(9 + 120))
                self.assertIs(spans == Spans(*other), same)
                self.assertIs(spans != Spans(*other), not same)

    def test_equality_with_other_kinds(self):
        for told in (NOTHING, ALL, EVENS):
            spans = Spans(*told)
            for other in (0, 1, told, (), "", None, [spans], {}, spans.head, True):
                self.assertIs(spans == other, False)
                self.assertIs(spans != other, True)
                self.assertIs(other == spans, False)

    def test_is_empty(self):
        for told in SETS:
            self.assertIs(Spans(*told).is_empty(), not any(belongs(told, t) for t in range(30)))

    def test_first_and_next_from(self):
        for told in SETS:
            spans = Spans(*told)
            members = [t for t in range(120) if belongs(told, t)]
            self.assertEqual(spans.first(), members[0] if members else None)
            for instant in range(60):
                expected = next((t for t in members if t >= instant), None)
                self.assertEqual(spans.next_from(instant), expected, (told, instant))
            for far in (10 ** 9, FAR):
                expected = next((t for t in range(far, far + 40) if belongs(told, t)), None)
                self.assertEqual(spans.next_from(far), expected, told)

    def test_last_below(self):
        for told in SETS:
            spans = Spans(*told)
            for instant in range(60):
                expected = max((t for t in range(instant) if belongs(told, t)), default=None)
                self.assertEqual(spans.last_below(instant), expected, (told, instant))
            # Where there is none close below, the set has none from `since` on.
            for far in (10 ** 9, FAR):
                close = max((t for t in range(far - 40, far) if belongs(told, t)), default=None)
                early = max((t for t in range(60) if belongs(told, t)), default=None)
                self.assertEqual(spans.last_below(far), early if close is None else close, told)

    def test_measure_and_parts(self):
        bounds = [(start, stop) for start in (0, 1, 4, 9, 10, 17) for stop in (0, 1, 2, 9, 10, 11, 23, 60)
                  if start <= stop]
        for told in SETS:
            spans = Spans(*told)
            for start, stop in bounds:
                for far in (0, FAR):
                    members = [t for t in range(far + start, far + stop) if belongs(told, t)]
                    found = spans.parts(far + start, far + stop)
                    self.assertEqual(found, tidy(members), told)
                    self.assertIs(type(found), tuple)
                    self.assertEqual(spans.measure(far + start, far + stop), len(members), told)

    def test_measure_of_bounds_far_apart(self):
        for told in SETS:
            spans = Spans(*told)
            turns = 10 ** 60 // told[2]
            whole = sum(belongs(told, told[1] + t) for t in range(told[2]))
            early = sum(belongs(told, t) for t in range(told[1] + 5))
            late = sum(belongs(told, told[1] + t) for t in range(5))
            self.assertEqual(spans.measure(0, told[1] + turns * told[2] + 5), early - late + turns * whole + late)
            self.assertEqual(spans.measure(FAR, FAR + turns * told[2]), turns * whole)

    def test_parts_over_a_million(self):
        self.assertEqual(Spans(*ALL).parts(FAR, FAR + 10 ** 6), ((FAR, FAR + 10 ** 6),))
        self.assertEqual(Spans(*NOTHING).parts(FAR, FAR + 10 ** 6), ())
        thirds = Spans(((1, 2),), 5, 3, ((0, 2),))
        found = thirds.parts(0, 10 ** 6)
        self.assertEqual(found, ((1, 2), *[(k, min(k + 2, 10 ** 6)) for k in range(5, 10 ** 6, 3)]))
        self.assertEqual(thirds.measure(0, 10 ** 6), sum(end - start for start, end in found))

    def test_differs(self):
        for told in SETS:
            for other in SETS[::5]:
                expected = next((t for t in range(9 + 120) if belongs(told, t) != belongs(other, t)), None)
                self.assertEqual(Spans(*told).differs(Spans(*other)), expected, (told, other))
