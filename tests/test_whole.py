"""The whole program: devices that work offline and then synchronize, their books as text, times found in them."""

import unittest

from dayspread.device import Device
from dayspread.exchange import read_book, write_book
from dayspread.finder import find
from dayspread.hours import weekly_hours
from dayspread.needs import Need, is_possible
from dayspread.network import Network
from dayspread.papers import is_certificate
from dayspread.reminders import next_ring, rings
from dayspread.series import Series
from dayspread.server import Server
from dayspread.written import parse_rule
from dayspread.zone import Zone
from tests.plain import values
from tests.samples import FAR, GREGORIAN
from tests.telling import act_of, entry_of, told
from tests.zone_samples import CLOCK


def series(line, unit, length, **more):
    return Series(CLOCK, parse_rule(GREGORIAN, line), unit, length, **more)


STANDUP = series("every 1 weeks on 0 1 2 3 4 from 107", 540, 30)
REVIEW = series("every 2 weeks on 4 from 107", 840, 120)
CLOSING = series("every 1 months at back:1 from 107", 1000, 60)
RESOURCES = ("room", "ann", "bob", "dan", "hall")

TEXT = """booking closing room dan
rule every 1 months at back:1 from 107 until 303
at 1000 for 60
end
booking late room dan
rule every 1 months at back:1 from 304
at 1000 for 60
end
booking review room
rule every 2 weeks on 4 from 107
at 840 for 120
dropped 109
guest bob coming
end
booking standup room ann
rule every 1 weeks on 0 1 2 3 4 from 107
at 540 for 30
guest bob coming
end"""


class WholeTest(unittest.TestCase):
    def setUp(self):
        """Three devices work without a network; then one after the other sends what it has, and all of them pull."""
        self.server = Server()
        self.devices = [Device(number) for number in range(3)]
        self.network = Network(self.server, self.devices)
        self.devices[0].add("standup", STANDUP, ("room", "ann"))
        self.pull_all()
        self.work_offline(*self.devices)
        self.pull_all()

    def work_offline(self, first, second, third):
        first.invite("standup", "bob")
        first.add("review", REVIEW, ("room",))
        first.drop("review", 109)
        first.invite("review", "bob")
        first.reply("review", "bob", "coming")
        second.drop("standup", 113)
        second.add("closing", CLOSING, ("room", "dan"))
        second.divide("closing", 304, "late")
        third.reply("standup", "bob", "coming")
        third.add("review", CLOSING, ("hall",))
        third.remove("review")

    def pull_all(self):
        for _ in range(2):
            for number in range(3):
                self.devices[number].pull()
                self.synchronize(number)

    def synchronize(self, number):
        """All requests of a device are sent; each message is repeated, and some of the copies are lost."""
        turn = 0
        while self.network.send(number):
            turn += 1
            while self.network.messages():
                self.network.repeat(0)
                self.network.deliver(0)
                if turn % 2:
                    self.network.lose(0)
                else:
                    self.network.deliver(0)
                self.drain()

    def drain(self):
        """Of the replies that are under way only the last one stays."""
        while len(self.network.messages()) > 1:
            self.network.lose(0)

    def test_answers(self):
        answers = [[(act_of(act), answer) for act, answer in device.answers()] for device in self.devices]
        self.assertEqual(answers[0], [
            (act_of(("add", "standup", STANDUP, ("room", "ann"))), ("done", 1)),
            (("invite", "standup", 1, "bob"), ("done", 2)), (act_of(("add", "review", REVIEW, ("room",))), ("done", 3)),
            (("drop", "review", 3, 109), ("done", 4)), (("invite", "review", 4, "bob"), ("done", 5)),
            (("reply", "review", "bob", "coming"), ("done", 6))])
        self.assertEqual(answers[1], [
            (("drop", "standup", 1, 113), ("refused", "stale")),
            (act_of(("add", "closing", CLOSING, ("room", "dan"))), ("done", 7)),
            (("split", "closing", 7, 304, "late"), ("done", 8))])
        self.assertEqual(answers[2], [
            (("reply", "standup", "bob", "coming"), ("done", 9)),
            (act_of(("add", "review", CLOSING, ("hall",))), ("refused", "duplicate")),
            (("remove", "review", None), ("refused", "undone"))])

    def test_all_agree(self):
        book = told(self.server.book())
        self.assertEqual(self.server.total(), 9)
        for device in self.devices:
            self.assertEqual((device.token(), device.waiting(), device.outgoing()), (9, 0, None))
            self.assertEqual({name: entry_of(device.entry(name)[1:]) for name in device.names()}, book)
            self.assertEqual([(name, device.entry(name)[0]) for name in device.names()],
                             [("closing", 8), ("late", 8), ("review", 6), ("standup", 9)])

    def test_text(self):
        book = self.server.book()
        self.assertEqual(write_book(book), TEXT)
        again = read_book(CLOCK, TEXT)
        self.assertEqual((told(again), write_book(again)), (told(book), TEXT))
        for resource in RESOURCES:
            self.assertEqual(values(again.busy(resource)), values(book.busy(resource)))
            for start in (0, 150000, FAR):
                self.assertEqual(again.agenda(resource, start, start + 10 ** 5),
                                 book.agenda(resource, start, start + 10 ** 5))
                self.assertEqual(rings(again, resource, 10, start, start + 10 ** 5),
                                 rings(book, resource, 10, start, start + 10 ** 5))
                self.assertEqual(next_ring(again, resource, 10, start), next_ring(book, resource, 10, start))

    def test_rings(self):
        book = self.server.book()
        start = CLOCK.instant(304 * 1440 + 1000)
        self.assertEqual(next_ring(book, "dan", 15, start - 15), (start - 15, "late", 304))
        self.assertEqual(next_ring(book, "bob", 15, 0), (CLOCK.instant(107 * 1440 + 540) - 15, "standup", 107))
        # Day 109 of the review is dropped.
        self.assertNotIn(109, [day for _, name, day in rings(book, "bob", 0, 0, 10 ** 6) if name == "review"])

    def test_times(self):
        book = self.server.book()
        office = weekly_hours(CLOCK, tuple((weekday, 480, 1080) for weekday in range(5)))
        again = read_book(CLOCK, write_book(book))
        for length, before, start, expected in ((60, 0, 0, "found"), (240, 30, 160000, "found"), (505, 0, FAR, "found"),
                                                (600, 0, 0, "found"), (6000, 0, 160000, "never")):
            need = Need(("room", "bob", "dan"), length, hours=office, before=before, start=start)
            certificate = find(book, need)
            self.assertEqual(certificate[0], expected)
            for other in (book, again, self.server.book()):
                self.assertTrue(is_certificate(other, need, certificate))
            if expected == "found":
                self.assertTrue(is_possible(again, need, certificate[1]))

    def test_a_certificate_and_a_later_change(self):
        plain = Zone(GREGORIAN, 60)
        device = self.devices[1]
        for name, first in (("even", 107), ("odd", 114)):
            rule = parse_rule(GREGORIAN, f"every 2 weeks on 4 from {first}")
            device.add(name, Series(plain, rule, 840, 1), ("desk",))
        device.invite("even", "eve")
        need = Need(("desk", "eve"), 120, hours=weekly_hours(plain, ((4, 840, 960),)), start=10 ** 60)
        books = [self.server.book()]
        for _ in range(3):
            self.assertTrue(self.network.send(1))
            self.network.deliver(0)
            self.network.deliver(0)
            books.append(self.server.book())
        answers = [find(book, need) for book in books]
        # As long as one of the two is not booked, the other weeks are free.
        self.assertEqual([answer[0] for answer in answers], ["found", "found", "never", "never"])
        self.assertLess(answers[0][1], answers[1][1])
        for place, answer in enumerate(answers):
            self.assertEqual([is_certificate(book, need, answer) for book in books],
                             [other == place or {other, place} == {2, 3} for other in range(4)])


if __name__ == "__main__":
    unittest.main()
