"""Points 8.1 and 8.2: acts, their answers and refusals, versions and the number of changes."""

import unittest

from dayspread.edits import split_at, with_moved, without_day
from dayspread.server import Server
from dayspread.series import Series
from dayspread.zone import Zone
from tests.rule_samples import NEVER
from tests.samples import SMALL
from tests.telling import changes_of, parts_of, told

PLAIN = Zone(SMALL, 0)
PERSONS = ("ann", "bob", "cy", "dan", "eve", "flo", "gus", "hal")


def weekly(weekday, unit=0, length=2, **more):
    return Series(PLAIN, (("weeks", 1, (weekday,)), 8, NEVER), unit, length, **more)


class ServerTest(unittest.TestCase):
    def setUp(self):
        """Two bookings, one of them with guests; the server has done six acts."""
        self.server = Server()
        self.done(1, "add", "one", weekly(1, dropped=(13,), moved=((17, 500, 3),)), ("red", "blue"))
        self.done(2, "add", "two", weekly(2), ("blue",))
        self.done(3, "invite", "one", 1, "ann")
        self.done(4, "invite", "one", 3, "bob")
        self.done(5, "reply", "one", "ann", "coming")
        self.done(6, "reply", "one", "bob", "absent")

    def done(self, number, *act):
        """The act is done, and its change has this number."""
        self.assertEqual(self.server.do(act), ("done", number))
        self.assertEqual(self.server.total(), number)
        self.assertEqual(self.server.version(act[1]), number)

    def state(self):
        names = ("one", "two", "three", "new", "four", "five")
        return (told(self.server.book()), self.server.total(), [self.server.version(name) for name in names],
                changes_of(self.server.changes(0)))

    def refused(self, parts, *act):
        """The act is refused for this reason, and it is no change."""
        before = self.state()
        self.assertEqual(self.server.do(act), ("refused", *parts))
        self.assertEqual(self.state(), before)

    def series(self, name):
        return parts_of(self.server.book().series(name))


class NewServerTest(unittest.TestCase):
    def test_it_is_empty(self):
        server = Server()
        self.assertEqual((told(server.book()), server.total(), server.changes(0)), ({}, 0, ()))
        for name in ("one", "a", "zz"):
            self.assertEqual(server.version(name), 0)

    def test_unknown_bookings(self):
        server = Server()
        for act in (("remove", "one", 0), ("drop", "one", 0, 9), ("move", "one", 0, 9, 3, 1),
                    ("split", "one", 0, 9, "new"), ("invite", "one", 0, "ann"), ("reply", "one", "ann", "coming")):
            self.assertEqual(server.do(act), ("refused", "unknown"))
        self.assertEqual((server.total(), server.changes(0)), (0, ()))

    def test_two_servers(self):
        first, second = Server(), Server()
        first.do(("add", "one", weekly(1), ("red",)))
        self.assertEqual((second.total(), second.book().names()), (0, ()))


class AddTest(ServerTest):
    def test_done(self):
        series = weekly(3, unit=1)
        self.done(7, "add", "three", series, ("free", "green"))
        self.assertEqual(self.series("three"), parts_of(series))
        self.assertEqual((self.server.book().resources("three"), self.server.book().guests("three")),
                         (("free", "green"), ()))
        self.assertEqual([self.server.version(name) for name in ("one", "two")], [6, 2])

    def test_refusals(self):
        overlapping = weekly(1, length=18, moved=((13, 54, 1),))
        self.refused(("duplicate",), "add", "one", weekly(3), ("free",))
        self.refused(("duplicate",), "add", "two", overlapping, ("red",))
        self.refused(("self", 54), "add", "three", overlapping, ("free",))
        self.refused(("self", 54), "add", "three", overlapping, ("blue", "red"))
        self.refused(("clash", "red", 55), "add", "three", weekly(1, 1), ("green", "red"))
        self.refused(("clash", "blue", 55), "add", "three", weekly(1, 1), ("blue", "red"))
        self.refused(("clash", "ann", 54), "add", "three", weekly(1), ("ann",))
        self.refused(("clash", "blue", 60), "add", "three", weekly(2), ("red", "blue"))
        self.done(7, "add", "three", weekly(1), ("bob", "cy"))

    def test_a_name_anew(self):
        self.done(7, "remove", "one", 6)
        self.done(8, "add", "one", weekly(1), ("ann",))
        self.assertEqual(self.server.book().guests("one"), ())
        self.refused(("duplicate",), "add", "one", weekly(3), ("free",))


class RemoveTest(ServerTest):
    def test_done(self):
        self.done(7, "remove", "two", 2)
        self.assertEqual(self.server.book().names(), ("one",))
        self.done(8, "remove", "one", 6)
        self.assertEqual(told(self.server.book()), {})
        self.assertEqual([self.server.version(name) for name in ("one", "two")], [8, 7])

    def test_refusals(self):
        for version in (6, 0, 1, 7):
            self.refused(("unknown",), "remove", "three", version)
        for version in (5, 7, 0, 1, 2, -6):
            self.refused(("stale",), "remove", "one", version)
        for version in (1, 6):
            self.refused(("stale",), "remove", "two", version)
        self.done(7, "remove", "two", 2)
        for version in (2, 7):
            self.refused(("unknown",), "remove", "two", version)


class DropTest(ServerTest):
    def test_done(self):
        expected = without_day(self.server.book().series("one"), 17)
        self.done(7, "drop", "one", 6, 17)
        self.assertEqual(self.series("one"), parts_of(expected))
        self.done(8, "drop", "one", 7, 9)
        self.assertEqual(self.server.book().series("one").dropped, (9, 13, 17))
        self.assertEqual(self.server.book().guests("one"), (("ann", "coming"), ("bob", "absent")))

    def test_refusals(self):
        for day in (9, 13, 2000):
            self.refused(("unknown",), "drop", "three", 6, day)
            self.refused(("stale",), "drop", "one", 5, day)
        for day in (13, 10, 5, 1, 0):
            self.refused(("day",), "drop", "one", 6, day)
        self.done(7, "drop", "one", 6, 9)
        self.refused(("stale",), "drop", "one", 6, 9)
        self.refused(("day",), "drop", "one", 7, 9)


class MoveTest(ServerTest):
    def test_done(self):
        expected = with_moved(self.server.book().series("one"), 9, 504, 5)
        self.done(7, "move", "one", 6, 9, 504, 5)
        self.assertEqual(self.series("one"), parts_of(expected))
        self.done(8, "move", "one", 7, 9, 54, 2)
        self.done(9, "move", "one", 8, 17, 513, 1)
        self.assertEqual(self.server.book().series("one").moved, ((9, 54, 2), (17, 513, 1)))

    def test_refusals(self):
        for day in (9, 13):
            self.refused(("unknown",), "move", "three", 6, day, 126, 3)
            self.refused(("stale",), "move", "one", 5, day, 126, 3)
        for day in (13, 10, 5, 1):
            self.refused(("day",), "move", "one", 6, day, 126, 3)
        # From 121 on the occurrence meets that of day 21 of its own at 126, and that of "two" on day 22 at 132.
        self.refused(("self", 126), "move", "one", 6, 9, 121, 18)
        self.refused(("clash", "blue", 132), "move", "one", 6, 9, 130, 4)
        self.refused(("clash", "blue", 132), "move", "one", 6, 17, 128, 5)
        self.done(7, "move", "one", 6, 17, 128, 4)
        self.refused(("stale",), "move", "one", 6, 17, 121, 18)
        self.refused(("self", 130), "move", "one", 7, 9, 130, 3)

    def test_coming_guests(self):
        self.done(7, "add", "three", weekly(3), ("ann",))
        self.refused(("clash", "ann", 66), "move", "one", 6, 9, 65, 2)
        self.done(8, "reply", "one", "ann", "absent")
        self.done(9, "move", "one", 8, 9, 65, 2)


class SplitTest(ServerTest):
    def test_done(self):
        early, late = split_at(self.server.book().series("one"), 17)
        self.done(7, "split", "one", 6, 17, "new")
        self.assertEqual((self.series("one"), self.series("new")), (parts_of(early), parts_of(late)))
        book = self.server.book()
        for name in ("one", "new"):
            self.assertEqual(self.server.version(name), 7)
            self.assertEqual(book.resources(name), ("red", "blue"))
            self.assertEqual(book.guests(name), (("ann", "coming"), ("bob", "absent")))
        # Each of them goes its own way then.
        self.done(8, "reply", "new", "bob", "coming")
        self.assertEqual(self.server.book().guests("one"), (("ann", "coming"), ("bob", "absent")))
        self.assertEqual(self.server.version("one"), 7)

    def test_refusals(self):
        for version in (6, 0):
            self.refused(("unknown",), "split", "three", version, 17, "one")
            self.refused(("unknown",), "split", "three", version, 9, "new")
        for version in (5, 0, 7):
            self.refused(("stale",), "split", "one", version, 17, "two")
            self.refused(("stale",), "split", "one", version, 9, "new")
        for day in (17, 9, 10, 13):
            self.refused(("duplicate",), "split", "one", 6, day, "two")
            self.refused(("duplicate",), "split", "one", 6, day, "one")
        for day in (9, 8, 10, 14, 0, 2013, 10 ** 70):
            self.refused(("day",), "split", "one", 6, day, "new")

    def test_a_dropped_day_and_the_last_possible_one(self):
        self.done(7, "split", "one", 6, 13, "new")
        self.assertEqual(self.server.book().series("new").dropped, (13,))
        self.done(8, "split", "new", 7, 13 + 2000, "four")
        self.assertEqual([self.server.version(name) for name in ("one", "new", "four")], [7, 8, 8])

    def test_a_name_that_was_removed(self):
        self.done(7, "remove", "two", 2)
        self.done(8, "split", "one", 6, 17, "two")
        self.assertEqual(self.server.version("two"), 8)


class InviteTest(ServerTest):
    def test_done(self):
        self.done(7, "invite", "one", 6, "cy")
        self.assertEqual(self.server.book().guests("one"), (("ann", "coming"), ("bob", "absent"), ("cy", "asked")))
        # Who is held elsewhere can be asked all the same.
        self.done(8, "invite", "two", 2, "ann")
        self.done(9, "invite", "two", 8, "red")

    def test_refusals(self):
        for person in ("cy", "ann", "red"):
            self.refused(("unknown",), "invite", "three", 6, person)
            self.refused(("stale",), "invite", "one", 5, person)
        for person in ("ann", "bob", "red", "blue"):
            self.refused(("guest",), "invite", "one", 6, person)
        for number, person in enumerate(PERSONS[2:], start=7):
            self.done(number, "invite", "one", number - 1, person)
        self.refused(("full",), "invite", "one", 12, "ida")
        self.refused(("guest",), "invite", "one", 12, "hal")
        self.refused(("guest",), "invite", "one", 12, "red")
        self.refused(("stale",), "invite", "one", 11, "ida")
        self.assertEqual(len(self.server.book().guests("one")), 8)


class ReplyTest(ServerTest):
    def test_done(self):
        for number, word in enumerate(("coming", "asked", "absent", "absent", "coming", "coming"), start=7):
            # A word that the guest has already is a change, too.
            self.done(number, "reply", "one", "bob", word)
            self.assertEqual(self.server.book().guests("one"), (("ann", "coming"), ("bob", word)))

    def test_refusals(self):
        for person in ("ann", "dan"):
            for word in ("asked", "coming", "absent"):
                self.refused(("unknown",), "reply", "three", person, word)
                self.refused(("guest",), "reply", "two", person, word)
        self.refused(("guest",), "reply", "one", "red", "coming")
        self.refused(("guest",), "reply", "one", "cy", "absent")

    def test_clashes(self):
        self.done(7, "add", "three", weekly(1, 1), ("bob",))
        self.refused(("clash", "bob", 55), "reply", "one", "bob", "coming")
        self.done(8, "reply", "one", "bob", "asked")
        self.done(9, "invite", "two", 2, "ann")
        self.done(10, "add", "four", weekly(3), ("dan",))
        self.done(11, "invite", "four", 10, "bob")
        self.done(12, "reply", "four", "bob", "coming")
        self.done(13, "invite", "three", 7, "ann")
        self.refused(("clash", "ann", 55), "reply", "three", "ann", "coming")
        # The clash is that of the person alone, with another booking.
        self.done(14, "reply", "two", "ann", "coming")
        self.done(15, "reply", "one", "ann", "coming")
        self.done(16, "reply", "one", "ann", "absent")
        self.done(17, "reply", "three", "ann", "coming")
        self.refused(("clash", "ann", 55), "reply", "one", "ann", "coming")
        self.assertEqual(self.server.book().holder("ann", 55), "three")
