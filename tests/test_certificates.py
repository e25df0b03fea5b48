"""Point 7.4: certificates that were put together by hand, right and wrong ones."""

import unittest

from dayspread.book import Book
from dayspread.needs import Need
from dayspread.papers import is_certificate
from dayspread.series import Series
from dayspread.spans import Spans
from dayspread.zone import Zone
from tests.rule_samples import NEVER
from tests.samples import FAR, SMALL

PLAIN = Zone(SMALL, 0)


def weekly(units, **more):
    """A booking of days 9, 13 and so on, from unit 2 on."""
    return Series(PLAIN, (("weeks", 1, (1,)), 8, NEVER), 2, units, **more)


class CertificateTest(unittest.TestCase):
    def setUp(self):
        self.book = Book()

    def judge(self, expected, need, *certificates):
        for certificate in certificates:
            self.assertIs(is_certificate(self.book, need, certificate), expected, certificate)


class FoundTest(CertificateTest):
    def setUp(self):
        """The booking holds 56 to 58, 80 to 82, 104 to 106 and so on."""
        self.book = Book()
        self.book.add("one", weekly(3), ("red", "blue"))
        self.need = Need(("red",), 4, before=2, after=1, start=53)
        self.block = (53, 61, ("busy", "one", 9))

    def test_right_ones(self):
        self.judge(True, self.need, ("found", 61, (self.block,)),
                   ("found", 61, ((53, 55, self.block[2]), (55, 61, self.block[2]))),
                   ("found", 61, tuple((t, t + 1, self.block[2]) for t in range(53, 61))))
        self.judge(True, Need(("red",), 4, before=2, after=1, start=61), ("found", 61, ()))
        self.judge(True, Need(("free",), 4, start=FAR), ("found", FAR, ()))

    def test_another_instant(self):
        block = self.block
        for instant in (60, 62, 53, 52, 0, -1, -FAR, FAR, 76, 77, 85):
            for blocks in ((block,), (), ((53, instant, block[2]),), ((block, (61, instant, block[2])))):
                self.judge(False, self.need, ("found", instant, blocks))

    def test_instants_that_are_possible_but_not_the_first(self):
        # Nothing tells that 61 to 71 are not possible.
        for instant in (62, 71, 85):
            self.judge(False, self.need, ("found", instant, (self.block,)),
                       ("found", instant, (self.block, (61, instant, ("busy", "one", 13)))))
        # With an earlier start the row has to begin there.
        need = Need(("red",), 4, before=2, after=1, start=52)
        self.judge(False, need, ("found", 61, (self.block,)))
        self.judge(True, need, ("found", 61, ((52, 61, self.block[2]),)))
        # From 51 on it is possible at once.
        need = Need(("red",), 4, before=2, after=1, start=51)
        self.judge(False, need, ("found", 61, ((51, 61, self.block[2]),)), ("found", 61, ((52, 61, self.block[2]),)))
        self.judge(True, need, ("found", 51, ()))

    def test_forged_blocks(self):
        for block in ((52, 61, ("busy", "one", 9)), (54, 61, ("busy", "one", 9)), (53, 60, ("busy", "one", 9)),
                      (53, 62, ("busy", "one", 9)), (53, 61, ("busy", "one", 13)), (53, 61, ("busy", "two", 9)),
                      (53, 61, ("busy", "one", 8)), (53, 61, ("busy", "one", -9)), (53, 61, ("hours", 60)),
                      (61, 53, ("busy", "one", 9))):
            self.judge(False, self.need, ("found", 61, (block,)))
        half = (53, 57, self.block[2])
        self.judge(False, self.need, ("found", 61, (half,)), ("found", 61, (half, self.block)),
                   ("found", 61, (half, (58, 61, self.block[2]))), ("found", 61, (half, (56, 61, self.block[2]))),
                   ("found", 61, (self.block, self.block)), ("found", 61, ((53, 53, self.block[2]), self.block)))

    def test_both_reasons(self):
        # Of the hours 61 to 66 and 70 are missing.
        hours = ~Spans(((61, 67), (70, 71)), 71, 1, ())
        need = Need(("red",), 4, hours=hours, before=2, after=1, start=53)
        self.judge(False, need, ("found", 61, (self.block,)), ("found", 67, (self.block, (61, 67, ("hours", 66)))))
        # At 71 the booking of day 13 is still far enough: 71 + 4 + 1 is not above 80.
        self.judge(True, need, ("found", 71, (self.block, (61, 64, ("hours", 64)), (64, 67, ("hours", 66)),
                                              (67, 71, ("hours", 70)))))
        self.judge(False, need, ("found", 71, (self.block, (61, 67, ("hours", 66)), (67, 71, ("hours", 70)))))
        self.judge(False, need, ("found", 71, (self.block, (61, 65, ("hours", 64)), (65, 67, ("hours", 66)),
                                               (66, 71, ("hours", 70)))))
        self.judge(False, need, ("found", 71, (self.block, (61, 64, ("hours", 64)), (64, 67, ("hours", 67)),
                                               (67, 71, ("hours", 70)))))

    def test_a_changed_book(self):
        certificate = ("found", 61, (self.block,))
        self.book.invite("one", "ann")
        need = Need(("ann",), 4, before=2, after=1, start=53)
        self.judge(False, need, certificate)
        self.book.reply("one", "ann", "coming")
        self.judge(True, need, certificate)
        self.book.add("two", Series(PLAIN, (("days", 1), 10, ("count", 1)), 1, 1), ("free",))
        self.judge(True, self.need, certificate)
        self.book.add("three", Series(PLAIN, (("days", 1), 10, ("count", 1)), 2, 1), ("red",))
        self.judge(False, self.need, certificate)
        self.book.remove("three")
        self.book.drop("one", 9)
        self.judge(False, self.need, certificate)
        self.judge(True, self.need, ("found", 53, ()))


class NeverTest(CertificateTest):
    def test_short_hours(self):
        # Of each six units the first three.
        need = Need(("red",), 4, hours=Spans((), 0, 6, ((0, 3),)), start=7)
        blocks = ((7, 11, ("hours", 10)), (11, 12, ("hours", 11)), (12, 13, ("hours", 15)))
        self.judge(True, need, ("never", 7, 6, blocks))
        self.judge(True, need, ("never", 7, 12, (*blocks, (13, 17, ("hours", 16)), (17, 18, ("hours", 17)),
                                               (18, 19, ("hours", 21)))))
        self.judge(True, need, ("never", 8, 6, (*blocks, (13, 14, ("hours", 15)))))
        for period in (1, 2, 3, 5, 7, 13, FAR):
            self.judge(False, need, ("never", 7, period, blocks), ("never", 7 + 6 - period, period, blocks))
        for since in (6, 8, 5, 0, -1, -FAR, FAR):
            self.judge(False, need, ("never", since, 6, blocks), ("never", since, 13 - since, blocks))
        for place in range(3):
            self.judge(False, need, ("never", 7, 6, blocks[:place] + blocks[place + 1:]))
            a, b, reason = blocks[place]
            for other in ((a - 1, b, reason), (a + 1, b, reason), (a, b + 1, reason), (a, b - 1, reason),
                          (a, b, ("hours", a + 4)), (a, b, ("hours", b - 2)), (a, b, ("busy", "one", 1)),
                          (a, b, ("hours", 12)), (a, b, ("hours", -1))):
                self.judge(False, need, ("never", 7, 6, (*blocks[:place], other, *blocks[place + 1:])))

    def test_the_start_of_the_need(self):
        hours = Spans((), 0, 6, ((0, 3),))
        blocks = ((7, 11, ("hours", 10)), (11, 12, ("hours", 11)), (12, 13, ("hours", 15)))
        for start in (6, 8, 0, 13, FAR):
            self.judge(False, Need(("red",), 4, hours=hours, start=start), ("never", 7, 6, blocks))
        # A row from the start on does not help if `since` is below the start.
        need = Need(("red",), 4, hours=hours, start=9)
        self.judge(False, need, ("never", 8, 6, ((9, 11, ("hours", 10)), (11, 12, ("hours", 11)),
                                                 (12, 14, ("hours", 15)))))
        self.judge(True, need, ("never", 9, 6, ((9, 11, ("hours", 10)), (11, 12, ("hours", 11)),
                                                (12, 15, ("hours", 15)))))

    def test_no_hours_at_all(self):
        never = Spans((), 0, 1, ())
        for start in (0, 5, FAR):
            for length in (1, 10000):
                need = Need(("red",), length, hours=never, start=start)
                self.judge(True, need, ("never", start, 1, ((start, start + 1, ("hours", start)),)))
                self.judge(False, need, ("never", start, 1, ()), ("never", start - 1, 1, ()))
        need = Need(("red",), 3, hours=never)
        self.judge(True, need, ("never", 0, 3, ((0, 3, ("hours", 2)),)))
        self.judge(False, need, ("never", 0, 4, ((0, 4, ("hours", 3)),)))
        self.judge(False, Need(("red",), 1), ("never", 0, 1, ()), ("never", 0, 1, ((0, 1, ("hours", 0)),)))

    def test_the_hours_repeat_later(self):
        # The hours end at 40: from there on they repeat with the period 1, and not earlier.
        need = Need(("red",), 3, hours=Spans(((30, 40),), 40, 1, ()), start=38)
        self.judge(True, need, ("never", 40, 1, ((38, 41, ("hours", 40)),)))
        self.judge(True, need, ("never", 40, 2, ((38, 41, ("hours", 40)), (41, 42, ("hours", 43)))))
        self.judge(False, need, ("never", 39, 1, ((38, 40, ("hours", 40)),)))
        self.judge(False, need, ("never", 38, 3, ((38, 41, ("hours", 40)),)))

    def test_a_held_resource(self):
        # The booking is settled from (8 + 8) * 6 = 96 on, with the period 24, in which it holds 8 to 10.
        self.book.add("one", weekly(3), ("red", "blue"))
        need = Need(("red",), 22, start=90)
        blocks = ((90, 107, ("busy", "one", 17)), (107, 120, ("busy", "one", 21)))
        self.judge(True, need, ("never", 96, 24, blocks))
        self.judge(True, need, ("never", 96, 48, (*blocks, (120, 131, ("busy", "one", 21)),
                                                  (131, 144, ("busy", "one", 25)))))
        for since, period in ((95, 24), (95, 25), (96, 12), (96, 23), (96, 25), (108, 12), (90, 30), (97, 23)):
            self.judge(False, need, ("never", since, period, blocks))
        shifted = ((95, 107, ("busy", "one", 17)), (107, 119, ("busy", "one", 21)))
        self.judge(False, Need(("red",), 22, start=95), ("never", 95, 24, shifted))
        self.judge(True, Need(("red",), 22, start=95), ("never", 96, 24, (*shifted, (119, 120, ("busy", "one", 21)))))
        for forged in (((90, 108, ("busy", "one", 17)), (108, 120, ("busy", "one", 21))),
                       ((90, 107, ("busy", "one", 17)), (107, 120, ("busy", "one", 17))),
                       ((90, 107, ("busy", "one", 13)), (107, 120, ("busy", "one", 21))),
                       ((90, 107, ("busy", "two", 17)), (107, 120, ("busy", "one", 21))),
                       blocks[:1], blocks[1:], ()):
            self.judge(False, need, ("never", 96, 24, forged))

    def test_before(self):
        self.book.add("one", weekly(3), ("red",))
        need = Need(("red",), 12, before=10, after=0, start=104)
        # `since` is 96 + 10 at least.
        blocks = ((104, 117, ("busy", "one", 17)), (117, 129, ("busy", "one", 21)))
        self.judge(True, need, ("never", 106, 24, (*blocks, (129, 130, ("busy", "one", 21)))))
        self.judge(False, need, ("never", 105, 24, blocks), ("never", 104, 24, ((104, 117, ("busy", "one", 17)),
                                                                                (117, 128, ("busy", "one", 21)))))
        # With one unit less before or more of length the bounds are others.
        self.judge(True, Need(("red",), 13, before=9, start=104), ("never", 105, 24, (
            (104, 116, ("busy", "one", 17)), (116, 129, ("busy", "one", 21)))))

    def test_coming_guests(self):
        self.book.add("one", weekly(3), ("red",))
        self.book.invite("one", "ann")
        hours = Spans((), 0, 6, ((0, 3),))
        need = Need(("ann",), 4, hours=hours, start=7)
        blocks = ((7, 11, ("hours", 10)), (11, 12, ("hours", 11)), (12, 13, ("hours", 15)))
        self.judge(True, need, ("never", 7, 6, blocks))
        # As soon as she comes, the booking has to be settled, too.
        self.book.reply("one", "ann", "coming")
        self.judge(False, need, ("never", 7, 6, blocks), ("never", 7, 24, blocks))
        late = Need(("ann",), 4, hours=hours, start=96)
        rows = tuple(block for at in range(96, 120, 6)
                     for block in ((at, at + 3, ("hours", at + 3)), (at + 3, at + 6, ("hours", at + 5))))
        self.judge(True, late, ("never", 96, 24, rows))
        self.judge(False, late, ("never", 96, 6, rows[:2]), ("never", 96, 12, rows[:4]))
        self.book.reply("one", "ann", "absent")
        self.judge(True, late, ("never", 96, 6, rows[:2]), ("never", 96, 12, rows[:4]))

    def test_an_ended_booking(self):
        # It is settled from (17 + 8) * 6 on, with the period 1.
        ended = Series(PLAIN, (("weeks", 1, (1,)), 8, ("until", 20)), 2, 3)
        self.book.add("one", ended, ("red",))
        need = Need(("red",), 1, hours=Spans((), 0, 1, ()), start=140)
        for since, expected in ((150, True), (151, True), (149, False), (140, False)):
            blocks = tuple((t, t + 1, ("hours", t)) for t in range(140, since + 1))
            self.judge(expected, need, ("never", since, 1, blocks))
        # A moved day settles later, by its end.
        self.book.move("one", 13, 200, 18)
        for since, expected in ((150, False), (217, False), (218, True)):
            blocks = tuple((t, t + 1, ("hours", t)) for t in range(140, since + 1))
            self.judge(expected, need, ("never", since, 1, blocks))

    def test_several_bookings(self):
        # Periods of 4 and 3 days: the common one is 12 days.
        self.book.add("one", weekly(3), ("red",))
        self.book.add("two", Series(PLAIN, (("days", 3), 9, NEVER), 0, 2), ("ann",))
        need = Need(("red", "ann"), 22, start=102)
        blocks = []
        at = 102
        while at < 174:
            day = next(day for day in range(at // 6 + 4, 0, -1) if day % 4 == 1 and day * 6 + 2 < at + 22)
            end = min(day * 6 + 5, 174)
            blocks.append((at, end, ("busy", "one", day)))
            at = end
        self.judge(True, need, ("never", 102, 72, tuple(blocks)))
        for since, period in ((102, 24), (102, 18), (102, 36), (102, 71), (101, 72), (101, 73)):
            self.judge(False, need, ("never", since, period, tuple(blocks)))
        # For the room alone the other booking does not matter.
        self.judge(True, Need(("red",), 22, start=102), ("never", 102, 72, tuple(blocks)),
                   ("never", 102, 24, (*blocks[:1], (blocks[1][0], 126, blocks[1][2]))))
