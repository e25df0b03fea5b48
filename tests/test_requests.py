"""Points 8.3 and 8.4: the changes since a token, and the requests of devices."""

import random
import unittest

from dayspread.edits import without_day
from dayspread.server import Server
from dayspread.series import Series
from dayspread.zone import Zone
from tests.rule_samples import NEVER
from tests.samples import SMALL
from tests.telling import changes_of, message_of, parts_of, told

PLAIN = Zone(SMALL, 0)


def weekly(weekday, unit=0, length=2, **more):
    return Series(PLAIN, (("weeks", 1, (weekday,)), 8, NEVER), unit, length, **more)


# A history with adds, guests, drops, moves, splits and removes, and with names that are used anew.
HISTORY = (
    ("add", "one", weekly(1), ("red", "blue")), ("add", "two", weekly(2), ("blue",)),
    ("invite", "one", 1, "cy"), ("invite", "one", 3, "ann"), ("reply", "one", "cy", "coming"),
    ("drop", "one", 5, 13), ("split", "one", 6, 21, "late"), ("move", "late", 7, 25, 153, 2), ("remove", "two", 2),
    ("reply", "late", "ann", "absent"), ("add", "two", weekly(3), ("red",)), ("remove", "one", 7),
    ("split", "two", 11, 15, "one"), ("remove", "late", 10), ("add", "late", weekly(0), ("lamp",)),
    ("remove", "late", 15), ("drop", "two", 13, 11),
)
NAMES = ("one", "two", "late")


def entry_in(book, name):
    if name not in book.names():
        return None
    return parts_of(book.series(name)), book.resources(name), book.guests(name)


class ChangesTest(unittest.TestCase):
    def test_a_history(self):
        server = Server()
        versions = {}
        for number, act in enumerate(HISTORY, start=1):
            self.assertEqual(server.do(act), ("done", number))
            for name in (act[1], act[4]) if act[0] == "split" else (act[1],):
                versions[name] = number
            # Acts that are refused are no changes.
            for refused in (("remove", "none", 1), ("reply", act[1], "nobody", "asked"), ("drop", act[1], 0, 9)):
                self.assertEqual(server.do(refused)[0], "refused")
            self.assertEqual({name: server.version(name) for name in NAMES},
                             {name: versions.get(name, 0) for name in NAMES})
            self.check(server, versions, number)

    def check(self, server, versions, total):
        book = server.book()
        for token in range(total + 3):
            expected = sorted((version, name) for name, version in versions.items() if version > token)
            expected = [(name, version, entry_in(book, name)) for version, name in expected]
            found = server.changes(token)
            self.assertIs(type(found), tuple)
            self.assertEqual(changes_of(found), expected)
        self.assertEqual((server.changes(total), server.changes(total + 1)), ((), ()))

    def test_the_order_of_a_split(self):
        # Both names have the same version: they stand in the order of the names.
        for names in (("b", "a"), ("b", "c")):
            server = Server()
            server.do(("add", names[0], weekly(1), ("red",)))
            server.do(("split", names[0], 1, 17, names[1]))
            self.assertEqual([row[:2] for row in server.changes(0)], [(name, 2) for name in sorted(names)])
            server.do(("drop", names[0], 2, 9))
            self.assertEqual([row[:2] for row in server.changes(0)], [(names[1], 2), (names[0], 3)])

    def test_what_is_gone(self):
        server = Server()
        server.do(("add", "one", weekly(1), ("red",)))
        server.do(("remove", "one", 1))
        # It is told also to those who never heard of it.
        for token in (0, 1):
            self.assertEqual(server.changes(token), (("one", 2, None),))
        self.assertEqual(server.version("one"), 2)
        server.do(("add", "one", weekly(2), ("red",)))
        for token in (0, 1, 2):
            self.assertEqual(changes_of(server.changes(token)), [("one", 3, (parts_of(weekly(2)), ("red",), ()))])

    def test_guests_are_ascending(self):
        server = Server()
        server.do(("add", "one", weekly(1), ("red",)))
        for number, person in enumerate(("eve", "9a", "ann", "b0"), start=1):
            server.do(("invite", "one", number, person))
        server.do(("reply", "one", "b0", "coming"))
        guests = server.changes(0)[0][2][2]
        self.assertEqual(guests, (("9a", "asked"), ("ann", "asked"), ("b0", "coming"), ("eve", "asked")))


class RequestsTest(unittest.TestCase):
    def setUp(self):
        self.server = Server()

    def asks(self, device, number, act, answer):
        self.assertEqual(self.server.receive(("ask", device, number, act)), ("answer", device, number, answer))

    def ignored(self, *messages):
        before = told(self.server.book()), self.server.total()
        for message in messages:
            self.assertIsNone(self.server.receive(message), message)
        self.assertEqual((told(self.server.book()), self.server.total()), before)

    def test_the_first_request(self):
        act = ("add", "one", weekly(1), ("red",))
        for device in (0, 1, 7):
            for number in (0, 2, 3, -1, 10 ** 30):
                self.ignored(("ask", device, number, act), ("pull", device, number, 0))
        self.asks(0, 1, act, ("done", 1))
        self.ignored(("ask", 1, 2, act), ("pull", 1, 2, 0), ("pull", 1, 0, 0))
        self.assertEqual(self.server.receive(("pull", 1, 1, 1)), ("feed", 1, 1, 1, ()))

    def test_in_order(self):
        self.asks(3, 1, ("add", "one", weekly(1), ("red",)), ("done", 1))
        self.asks(3, 2, ("add", "one", weekly(2), ("red",)), ("refused", "duplicate"))
        feed = self.server.receive(("pull", 3, 3, 0))
        self.assertEqual(message_of(feed), ("feed", 3, 3, 1, [("one", 1, (parts_of(weekly(1)), ("red",), ()))]))
        self.assertIs(type(feed[4]), tuple)
        self.asks(3, 4, ("remove", "one", 1), ("done", 2))
        self.assertEqual(self.server.receive(("pull", 3, 5, 1)), ("feed", 3, 5, 2, (("one", 2, None),)))
        self.assertEqual(self.server.receive(("pull", 3, 6, 2)), ("feed", 3, 6, 2, ()))

    def test_repeated_requests(self):
        add = ("add", "one", weekly(1), ("red",))
        for _ in range(3):
            self.asks(0, 1, add, ("done", 1))
        self.assertEqual((self.server.total(), self.server.book().names()), (1, ("one",)))
        for _ in range(3):
            self.asks(0, 2, ("remove", "one", 1), ("done", 2))
        self.assertEqual(self.server.total(), 2)
        # The reply is that of the first time, also if it would be another one by now.
        for _ in range(2):
            self.asks(0, 3, ("remove", "one", 1), ("refused", "unknown"))
            self.server.do(("add", "one", weekly(1), ("red",)))
        first = self.server.receive(("pull", 0, 4, 0))
        for act in (("remove", "one", 3), ("add", "two", weekly(2), ("red",)), ("drop", "two", 5, 10)):
            self.assertEqual(self.server.do(act)[0], "done")
            again = self.server.receive(("pull", 0, 4, 0))
            self.assertEqual(message_of(again), message_of(first))
        self.assertEqual(first[3], 3)

    def test_the_number_alone_tells_what_is_repeated(self):
        self.asks(0, 1, ("add", "one", weekly(1), ("red",)), ("done", 1))
        self.asks(0, 1, ("add", "two", weekly(2), ("red",)), ("done", 1))
        self.assertEqual(self.server.receive(("pull", 0, 1, 0)), ("answer", 0, 1, ("done", 1)))
        self.assertEqual(self.server.book().names(), ("one",))
        self.assertEqual(self.server.receive(("pull", 0, 2, 1)), ("feed", 0, 2, 1, ()))
        self.assertEqual(self.server.receive(("ask", 0, 2, ("remove", "one", 1))), ("feed", 0, 2, 1, ()))
        self.assertEqual(self.server.total(), 1)

    def test_too_early_and_too_late(self):
        self.asks(0, 1, ("add", "one", weekly(1), ("red",)), ("done", 1))
        remove = ("remove", "one", 1)
        self.ignored(("ask", 0, 3, remove), ("ask", 0, 4, remove), ("ask", 0, 0, remove), ("ask", 0, -1, remove),
                     ("pull", 0, 3, 0), ("pull", 0, 0, 0))
        self.asks(0, 2, ("drop", "one", 1, 9), ("done", 2))
        self.ignored(("ask", 0, 1, ("add", "one", weekly(1), ("red",))), ("ask", 0, 4, ("remove", "one", 2)),
                     ("pull", 0, 1, 0))
        # The request that came too early is carried out when it is its turn.
        self.asks(0, 3, ("remove", "one", 2), ("done", 3))
        self.asks(0, 4, ("remove", "one", 2), ("refused", "unknown"))

    def test_several_devices(self):
        self.asks(0, 1, ("add", "one", weekly(1), ("red",)), ("done", 1))
        self.asks(1, 1, ("add", "two", weekly(2), ("red",)), ("done", 2))
        self.asks(0, 2, ("drop", "one", 1, 9), ("done", 3))
        self.asks(1, 2, ("drop", "one", 1, 13), ("refused", "stale"))
        self.asks(0, 2, ("drop", "one", 1, 9), ("done", 3))
        self.ignored(("ask", 2, 2, ("remove", "two", 2)), ("ask", 1, 4, ("remove", "two", 2)))
        self.asks(2, 1, ("remove", "two", 2), ("done", 4))
        self.asks(1, 2, ("drop", "one", 1, 13), ("refused", "stale"))
        self.assertEqual(self.server.receive(("pull", 1, 3, 3)), ("feed", 1, 3, 4, (("two", 4, None),)))

    def test_random_requests(self):
        source = random.Random(84)
        known, replies, texts = {}, {}, {}
        for _ in range(1500):
            device = source.randrange(4)
            last = known.get(device, 0)
            number = last + source.choice((-1, 0, 0, 1, 1, 2))
            name = source.choice(NAMES)
            version = self.server.version(name)
            message = source.choice((("pull", device, number, source.randint(0, 5)),
                                     ("ask", device, number, ("add", name, weekly(1), (name,))),
                                     ("ask", device, number, ("remove", name, version))))
            before = self.server.total()
            reply = self.server.receive(message)
            if number == last + 1:
                self.assertEqual(reply[:3], ({"ask": "answer", "pull": "feed"}[message[0]], device, number))
                known[device], replies[device], texts[device] = number, reply, repr(message_of(reply))
                done = message[0] == "ask" and reply[3][0] == "done"
                self.assertEqual(self.server.total(), before + done)
            else:
                self.assertEqual(self.server.total(), before)
                expected = texts[device] if number == last and last > 0 else "None"
                self.assertEqual(repr(message_of(reply)), expected)
        self.assertGreater(self.server.total(), 100)


class GivenTest(unittest.TestCase):
    """Point 0.2: what a caller does with what the server was given or gave changes nothing in the server."""

    def setUp(self):
        self.server = Server()
        self.series = weekly(1, dropped=(13,), moved=((17, 500, 3),))
        self.server.do(("add", "one", self.series, ("red",)))
        self.server.do(("invite", "one", 1, "ann"))
        self.expected = [("one", 2, (parts_of(self.series), ("red",), (("ann", "asked"),)))]

    def unchanged(self):
        self.assertEqual(changes_of(self.server.changes(0)), self.expected)
        self.assertEqual(parts_of(self.server.book().series("one")), self.expected[0][2][0])
        self.assertEqual(self.server.book().agenda("red", 54, 56), ((54, 56, "one", 9),))
        self.assertEqual((self.server.total(), self.server.version("one")), (2, 2))

    def spoil(self, series):
        series.unit, series.length, series.dropped, series.moved = 4, 1, (9,), ()
        series.rule = (("days", 1), 2, NEVER)

    def test_books(self):
        book = self.server.book()
        book.drop("one", 9)
        book.reply("one", "ann", "coming")
        book.add("two", weekly(2), ("red",))
        self.unchanged()
        book.remove("one")
        self.unchanged()

    def test_a_book_stays_when_the_server_goes_on(self):
        book = self.server.book()
        self.server.do(("drop", "one", 2, 9))
        self.server.do(("reply", "one", "ann", "coming"))
        self.assertEqual((book.series("one").dropped, book.guests("one")), ((13,), (("ann", "asked"),)))

    def test_series(self):
        series = self.server.book().series("one")
        without_day(series, 9)
        self.unchanged()
        self.spoil(series)
        self.unchanged()
        self.spoil(self.server.changes(0)[0][2][0])
        self.unchanged()

    def test_a_series_that_was_given(self):
        self.spoil(self.series)
        self.unchanged()
        self.assertEqual(self.server.do(("drop", "one", 2, 9)), ("done", 3))
        self.assertEqual(self.server.book().series("one").dropped, (9, 13))

    def test_replies(self):
        first = self.server.receive(("pull", 0, 1, 0))
        kept = message_of(first)
        self.spoil(first[4][0][2][0])
        self.unchanged()
        self.assertEqual(message_of(self.server.receive(("pull", 0, 1, 0))), kept)
