"""Points 4.3 and 4.4: the operations, held against a plain reading at each instant."""

import unittest
from math import lcm

from dayspread.spans import Spans
from tests.plain import belongs, normal_form, values
from tests.samples import FAR
from tests.span_samples import ALL, EVENS, NOTHING, ODD_ONES, some_sets

SETS = (*ODD_ONES, *some_sets(43, 90))
PAIRS = [(one, two) for place, one in enumerate(SETS) for two in SETS[place % 7::7]]


class OperationsTest(unittest.TestCase):
    def check(self, found, test, since, period):
        """Holds a result against the plain reading of a set that repeats with a period from `since` on."""
        self.assertIs(type(found), Spans)
        self.assertEqual(values(found), normal_form(test, since, period))
        self.assertEqual(period % found.period, 0)
        for instant in range(since + 2 * period):
            self.assertIs(instant in found, bool(test(instant)))

    def test_of_two_sets(self):
        for one, two in PAIRS:
            first, second = Spans(*one), Spans(*two)
            since, period = max(one[1], two[1]), lcm(one[2], two[2])
            with self.subTest(one=one, two=two):
                self.check(first | second, lambda t: belongs(one, t) or belongs(two, t), since, period)
                self.check(first & second, lambda t: belongs(one, t) and belongs(two, t), since, period)
                self.check(first - second, lambda t: belongs(one, t) and not belongs(two, t), since, period)

    def test_far_instants_of_two_sets(self):
        for one, two in PAIRS[::3]:
            first, second = Spans(*one), Spans(*two)
            either, both, rest = first | second, first & second, first - second
            for t in (FAR, FAR + 1, FAR + 10, 10 ** 299):
                self.assertIs(t in either, belongs(one, t) or belongs(two, t))
                self.assertIs(t in both, belongs(one, t) and belongs(two, t))
                self.assertIs(t in rest, belongs(one, t) and not belongs(two, t))

    def test_complement(self):
        for told in SETS:
            spans = Spans(*told)
            self.check(~spans, lambda t: not belongs(told, t), told[1], told[2])
            self.assertEqual(values(~~spans), values(spans))
            self.assertIs(FAR in ~spans, not belongs(told, FAR))
        self.assertEqual(values(~Spans(*ALL)), NOTHING)
        self.assertEqual(values(~Spans(*NOTHING)), ALL)
        self.assertEqual(values(~Spans(((5, 10),), 10, 1, ())), (((0, 5),), 10, 1, ((0, 1),)))

    def test_shifted(self):
        for told in SETS:
            spans = Spans(*told)
            for by in (0, 1, 3, 7, 12, 25, -1, -2, -5, -9, -10, -13, -30):
                since = max(told[1] + by, 0)
                self.check(spans.shifted(by), lambda t: t >= by and belongs(told, t - by), since, told[2])
            self.assertEqual(values(spans.shifted(0)), values(spans))

    def test_shifted_far(self):
        for told in SETS:
            spans = Spans(*told)
            later, earlier = spans.shifted(10000), spans.shifted(-10000)
            for instant in (*range(0, 10060, 37), *range(9990, 10040), FAR, FAR + 1):
                self.assertIs(instant in later, instant >= 10000 and belongs(told, instant - 10000))
                self.assertIs(instant in earlier, belongs(told, instant + 10000))
            self.assertEqual(values(later.shifted(-10000)), values(spans))
        self.assertEqual(values(Spans(((2, 9),), 9, 1, ()).shifted(-10000)), NOTHING)
        self.assertEqual(values(Spans(*ALL).shifted(10000)), ((), 10000, 1, ((0, 1),)))

    def test_widened(self):
        for told in SETS:
            spans = Spans(*told)
            for before, after in ((0, 0), (1, 0), (0, 1), (2, 3), (4, 1), (11, 0), (0, 13), (9, 9)):
                self.check(spans.widened(before, after),
                           lambda t: any(belongs(told, u) for u in range(max(0, t - after), t + before + 1)),
                           told[1] + after, told[2])
            self.assertEqual(values(spans.widened(0, 0)), values(spans))

    def test_widened_far(self):
        lone = Spans(((20000, 20001),), 20001, 1, ())
        self.assertEqual(values(lone.widened(10000, 10000)), (((10000, 30001),), 30001, 1, ()))
        self.assertEqual(values(lone.widened(10000, 0)), (((10000, 20001),), 20001, 1, ()))
        self.assertEqual(values(lone.widened(0, 10000)), (((20000, 30001),), 30001, 1, ()))
        early = Spans(((2, 3),), 3, 1, ())
        self.assertEqual(values(early.widened(10000, 0)), (((0, 3),), 3, 1, ()))
        rare = Spans((), 0, 30000, ((5, 6),))
        self.assertEqual(values(rare.widened(10000, 10000)), ((), 0, 30000, ((0, 10006), (20005, 30000))))
        self.assertEqual(values(rare.widened(3, 10000)), ((), 0, 30000, ((2, 10006),)))
        close = Spans((), 0, 20001, ((5, 6),))
        self.assertEqual(values(close.widened(10000, 10000)), ALL)
        for told in SETS:
            wide = Spans(*told).widened(10000, 10000)
            members = [t for t in range(40) if belongs(told, t)]
            for instant in (0, 1, 9999, 10000, 10010, 10020):
                expected = any(abs(t - instant) <= 10000 for t in members) or belongs_late(told)
                self.assertIs(instant in wide, expected)
            self.assertIs(FAR in wide, belongs_late(told))

    def test_room(self):
        for told in SETS:
            spans = Spans(*told)
            for length in (1, 2, 3, 4, 5, 8, 13, 30):
                self.check(spans.room(length), lambda t: all(belongs(told, u) for u in range(t, t + length)),
                           told[1], told[2])
            self.assertEqual(values(spans.room(1)), values(spans))

    def test_room_far(self):
        self.assertEqual(values(Spans(*ALL).room(10000)), ALL)
        self.assertEqual(values(Spans(*NOTHING).room(10000)), NOTHING)
        long = Spans(((3, 10003), (10005, 20004)), 20004, 1, ())
        self.assertEqual(values(long.room(10000)), (((3, 4),), 4, 1, ()))
        self.assertEqual(values(long.room(9999)), (((3, 5), (10005, 10006)), 10006, 1, ()))
        late = Spans((), 50, 20000, ((0, 10001),))
        self.assertEqual(values(late.room(10000)), ((), 0, 20000, ((50, 52),)))
        self.assertEqual(values(late.room(10001)), ((), 0, 20000, ((50, 51),)))

    def test_operands_stay(self):
        for one, two in PAIRS[::5]:
            first, second = Spans(*one), Spans(*two)
            kept = values(first), values(second)
            for _ in (first | second, first & second, first - second, ~first, first.shifted(-3), first.shifted(4),
                      first.widened(2, 3), first.room(2), first.differs(second), first == second, 5 in first):
                self.assertEqual((values(first), values(second)), kept)


def belongs_late(told):
    """True if instants belong to the set again and again."""
    return len(told[3]) > 0


class FarTest(unittest.TestCase):
    """Sets of few spans with great numbers: no answer takes a way through all their instants or periods."""

    def test_periods_without_a_common_divisor(self):
        one, two = ((), 5, 997, ((3, 9), (500, 700))), (((1, 4),), 8, 1009, ((0, 2), (1000, 1009)))
        first, second = Spans(*one), Spans(*two)
        either, both, rest = first | second, first & second, first - second
        self.assertEqual((either.period, both.period, rest.period), (997 * 1009,) * 3)
        for base in (0, 995, 10 ** 5, 997 * 1009 - 40, FAR):
            for t in range(base, base + 1200):
                self.assertIs(t in either, belongs(one, t) or belongs(two, t))
                self.assertIs(t in both, belongs(one, t) and belongs(two, t))
                self.assertIs(t in rest, belongs(one, t) and not belongs(two, t))
        # By the Chinese remainder theorem each pair of remainders comes once in the common period.
        self.assertEqual(both.measure(FAR, FAR + 997 * 1009), 206 * 11)
        self.assertEqual(either.measure(FAR, FAR + 997 * 1009), 206 * 1009 + 11 * 997 - 206 * 11)
        self.assertEqual(rest.measure(FAR, FAR + 997 * 1009), 206 * 998)

    def test_great_periods_and_a_late_since(self):
        one = (((17, 20),), 10 ** 7, 10 ** 6, ((5, 10), (7000, 8000)))
        two = (((10 ** 6, 10 ** 6 + 5),), 10 ** 7 - 3, 5 * 10 ** 5, ((0, 7), (7100, 7200)))
        first, second = Spans(*one), Spans(*two)
        either, both, rest = first | second, first & second, first - second
        for base in (0, 10 ** 6 - 5, 10 ** 7 - 20, 10 ** 7 + 6990, 10 ** 7 + 7090, 10 ** 7 + 10 ** 6 - 9,
                     10 ** 8 + 5 * 10 ** 5, 10 ** 60, 10 ** 60 + 7095):
            for t in range(base, base + 40):
                self.assertIs(t in either, belongs(one, t) or belongs(two, t))
                self.assertIs(t in both, belongs(one, t) and belongs(two, t))
                self.assertIs(t in rest, belongs(one, t) and not belongs(two, t))
        self.assertEqual((either.period, both.period, rest.period), (10 ** 6,) * 3)
        self.assertEqual((both.head, both.since), ((), 9007197))
        self.assertEqual((either.head, either.since), (((17, 20), (10 ** 6, 10 ** 6 + 5)), 9507197))
        self.assertEqual(len(either.cycle), 5)

    def test_a_great_period_beside_a_small_one(self):
        few = Spans(((10, 20),), 10 ** 9, 10 ** 9, ((1, 2), (10 ** 8, 10 ** 8 + 4)))
        evens = Spans(*EVENS)
        both, rest = few & evens, few - evens
        self.assertEqual(values(both), (((10, 11), (12, 13), (14, 15), (16, 17), (18, 19)), 10 ** 8 + 3, 10 ** 9,
                                        ((10 ** 9 - 3, 10 ** 9 - 2), (10 ** 9 - 1, 10 ** 9))))
        self.assertEqual([both.measure(10 ** 9, 2 * 10 ** 9), rest.measure(10 ** 9, 2 * 10 ** 9)], [2, 3])
        self.assertEqual([both.next_from(19), rest.next_from(20)], [10 ** 9 + 10 ** 8, 10 ** 9 + 1])

    def test_a_set_within_another_one(self):
        evens, odd = Spans(*EVENS), ~Spans(*EVENS)
        rare = Spans((), 0, 10 ** 9, ((1, 2),))
        self.assertEqual(values(rare | odd), values(odd))
        self.assertEqual(values(evens - rare), EVENS)
        self.assertEqual(values(rare - odd), NOTHING)
        self.assertEqual(values(rare & odd), values(rare))
        full = Spans(((0, 10 ** 9),), 10 ** 9, 2, ((0, 1),))
        self.assertEqual(values(full & evens), EVENS)
        self.assertEqual(values(full | evens), values(full))
        early = Spans(((0, 10 ** 9),), 10 ** 9, 1, ())
        self.assertEqual(values(early | evens), (((0, 10 ** 9),), 10 ** 9, 2, ((0, 1),)))
        self.assertEqual(values(evens - early), ((), 10 ** 9 - 1, 2, ((1, 2),)))
        late = Spans(((10 ** 9 - 5, 10 ** 9),), 10 ** 9, 1, ())
        self.assertEqual((evens & late).head, ((10 ** 9 - 4, 10 ** 9 - 3), (10 ** 9 - 2, 10 ** 9 - 1)))

    def test_all_but_two_instants(self):
        """What both have in common repeats from below the `since` of the other set, as far as it may."""
        thirds = (((0, 10),), 10, 3, ((0, 1),))
        less = (((0, 11),), 14, 3, ((2, 3),))
        for stop, at, expected in ((15, 11, thirds), (15, 13, less), (100, 11, thirds), (100, 13, less),
                                   (100, 98, thirds), (10 ** 9, 11, thirds), (10 ** 9, 13, less),
                                   (10 ** 9, 10 ** 9 - 2, thirds)):
            holed = tuple(row for row in ((0, at), (at + 2, stop)) if row[0] < row[1])
            other = Spans(holed, stop, 1, ((0, 1),))
            self.assertEqual(values(Spans(*thirds) & other), expected, (stop, at))
            self.assertEqual(values(~(~Spans(*thirds) | ~other)), expected, (stop, at))
            self.assertEqual(values(Spans(*thirds) - ~other), expected, (stop, at))

    def test_periods_whose_multiple_is_a_thousand_million(self):
        one, two = ((), 0, 31607, ((0, 1),)), ((), 3, 31627, ((100, 101),))
        first, second = Spans(*one), Spans(*two)
        both = first & second
        self.assertEqual((both.period, len(both.cycle), both.head), (31607 * 31627, 1, ()))
        at = both.first()
        self.assertEqual((at % 31607, (at - 3) % 31627), (0, 100))
        self.assertTrue(0 <= at < 31607 * 31627)
        self.assertIn(at + FAR * 31607 * 31627, both)
        self.assertEqual(first.differs(second), 0)
        self.assertEqual((first - second).measure(FAR, FAR + 31607 * 31627), 31626)

    def test_first_next_and_differs_are_late(self):
        late = Spans((), 10 ** 9, 10 ** 9, ((10 ** 9 - 1, 10 ** 9),))
        self.assertEqual((late.first(), late.next_from(5)), (2 * 10 ** 9 - 1,) * 2)
        self.assertEqual(late.next_from(10 ** 60), 10 ** 60 + 10 ** 9 - 1)
        self.assertEqual(late.differs(Spans(*NOTHING)), 2 * 10 ** 9 - 1)
        self.assertEqual((~late).differs(Spans(*ALL)), 2 * 10 ** 9 - 1)
        evens = Spans(*EVENS)
        more = evens | Spans(((1001, 1002),), 1002, 1, ())
        self.assertEqual((evens.differs(more), more.differs(evens)), (1001, 1001))
        self.assertIsNone(evens.differs(Spans(*EVENS)))
        once = Spans(((10 ** 9 - 1, 10 ** 9),), 10 ** 9, 1, ())
        self.assertEqual((once.first(), once.next_from(10 ** 9)), (10 ** 9 - 1, None))
        self.assertEqual(once.measure(0, 10 ** 60), 1)
        slow = Spans((), 0, 999999937, ((0, 5),))
        self.assertEqual(slow.differs(Spans((), 0, 999999938, ((0, 5),))), 999999937)

    def test_changes_of_sets_with_great_numbers(self):
        told = (((7, 9), (10 ** 9 - 10, 10 ** 9 - 3)), 10 ** 9, 999999937, ((5, 1000), (10 ** 8, 10 ** 8 + 9)))
        spans = Spans(*told)
        later, earlier, wide, room = (spans.shifted(10000), spans.shifted(-10000), spans.widened(10000, 10000),
                                      spans.room(900))
        for base in (0, 9995, 10 ** 9 - 15, 10 ** 9, 10 ** 9 + 90, 10 ** 9 + 990, 11 * 10 ** 8 - 10000, 10 ** 60):
            for t in range(base, base + 30):
                self.assertIs(t in later, t >= 10000 and belongs(told, t - 10000))
                self.assertIs(t in earlier, belongs(told, t + 10000))
                self.assertIs(t in wide, spans.next_from(max(0, t - 10000)) <= t + 10000)
                self.assertIs(t in room, (~spans).next_from(t) >= t + 900)
        for changed in (later, earlier, wide, room):
            self.assertEqual(changed.period, 999999937)
