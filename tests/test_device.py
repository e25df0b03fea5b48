"""Points 9.1 and 9.2: the queue of a device, what it knows, what it sends, and its copy."""

import unittest

from dayspread.device import Device
from dayspread.errors import UnknownBooking
from dayspread.server import Server
from dayspread.series import Series
from dayspread.zone import Zone
from tests.rule_samples import NEVER
from tests.samples import SMALL
from tests.telling import act_of, entry_of, message_of, parts_of, told

PLAIN = Zone(SMALL, 0)
UNDONE = ("refused", "undone")


def weekly(weekday, unit=0, length=2, **more):
    return Series(PLAIN, (("weeks", 1, (weekday,)), 8, NEVER), unit, length, **more)


# One act of each kind that needs a known booking: the method, what follows the name, and the act that it makes.
CALLS = (
    ("remove", (), lambda name, version: ("remove", name, version)),
    ("drop", (9,), lambda name, version: ("drop", name, version, 9)),
    ("move", (9, 55, 2), lambda name, version: ("move", name, version, 9, 55, 2)),
    ("divide", (17, "new"), lambda name, version: ("split", name, version, 17, "new")),
    ("invite", ("ann",), lambda name, version: ("invite", name, version, "ann")),
    ("reply", ("ann", "coming"), lambda name, version: ("reply", name, "ann", "coming")),
)


class DeviceTest(unittest.TestCase):
    """A server with the bookings "one" (version 1) and "two" (version 2), and a device that has pulled them."""

    def setUp(self):
        self.server = Server()
        self.server.do(("add", "one", weekly(1), ("red",)))
        self.server.do(("add", "two", weekly(2), ("blue",)))
        self.device = Device(0)
        self.device.pull()
        self.turn()

    def turn(self, device=None):
        """One request and its reply."""
        device = device or self.device
        request = device.outgoing()
        device.receive(self.server.receive(request))
        return request

    def sends(self, act, device=None):
        """The device sends this act next; its answer comes, and is returned."""
        device = device or self.device
        place = len(device.answers())
        request = self.turn(device)
        self.assertEqual(message_of(request)[3], act_of(act))
        self.assertEqual(act_of(device.answers()[place][0]), act_of(act))
        return device.answers()[place][1]

    def answers(self):
        return [(act_of(act), answer) for act, answer in self.device.answers()]

    def unknown(self, name, device=None):
        """No act but an add can be queued for the name."""
        device = device or self.device
        before = device.waiting()
        for method, rest, _ in CALLS:
            with self.assertRaises(UnknownBooking):
                getattr(device, method)(name, *rest)
        self.assertEqual(device.waiting(), before)


class NewDeviceTest(unittest.TestCase):
    def test_it_is_empty(self):
        device = Device(4)
        self.assertEqual((device.names(), device.token(), device.waiting(), device.answers()), ((), 0, 0, ()))
        self.assertIsNone(device.outgoing())
        with self.assertRaises(UnknownBooking):
            device.entry("one")
        for method, rest, _ in CALLS:
            with self.assertRaises(UnknownBooking):
                getattr(device, method)("one", *rest)
        self.assertIsNone(device.outgoing())

    def test_the_first_request(self):
        device = Device(4)
        device.add("one", weekly(1), ("red",))
        self.assertEqual(message_of(device.outgoing()), ("ask", 4, 1, ("add", "one", parts_of(weekly(1)), ("red",))))
        device = Device(5)
        device.pull()
        self.assertEqual(device.outgoing(), ("pull", 5, 1, 0))


class CopyTest(DeviceTest):
    def test_what_was_pulled(self):
        self.assertEqual((self.device.names(), self.device.token()), (("one", "two"), 2))
        version, *entry = self.device.entry("one")
        self.assertEqual((version, entry_of(tuple(entry))), (1, (parts_of(weekly(1)), ("red",), ())))
        self.assertIs(type(self.device.entry("two")), tuple)
        with self.assertRaises(UnknownBooking):
            self.device.entry("three")

    def test_the_copy_comes_from_feeds_alone(self):
        self.device.add("three", weekly(3), ("red",))
        self.device.remove("two")
        self.device.drop("one", 9)
        for expected in ("done", "done", "done"):
            self.turn()
            self.assertEqual(self.device.answers()[-1][1][0], expected)
        self.assertEqual((self.device.names(), self.device.token()), (("one", "two"), 2))
        self.assertEqual((self.device.entry("one")[0], self.device.entry("one")[1].dropped), (1, ()))
        self.device.pull()
        self.assertEqual(self.turn(), ("pull", 0, 5, 2))
        self.assertEqual((self.device.names(), self.device.token()), (("one", "three"), 5))
        self.assertEqual((self.device.entry("one")[0], self.device.entry("one")[1].dropped), (5, (9,)))
        with self.assertRaises(UnknownBooking):
            self.device.entry("two")

    def test_guests_and_names_anew(self):
        self.server.do(("invite", "one", 1, "cy"))
        self.server.do(("invite", "one", 3, "ann"))
        self.server.do(("remove", "two", 2))
        self.device.pull()
        self.turn()
        self.assertEqual(self.device.entry("one")[3], (("ann", "asked"), ("cy", "asked")))
        self.server.do(("add", "two", weekly(3), ("lamp",)))
        self.server.do(("remove", "one", 4))
        self.device.pull()
        self.turn()
        self.assertEqual((self.device.names(), self.device.token()), (("two",), 7))
        self.assertEqual((self.device.entry("two")[0], self.device.entry("two")[2]), (6, ("lamp",)))

    def test_an_entry_that_is_gone_and_was_never_there(self):
        self.server.do(("add", "three", weekly(3), ("lamp",)))
        self.server.do(("remove", "three", 3))
        self.device.pull()
        self.turn()
        self.assertEqual((self.device.names(), self.device.token()), (("one", "two"), 4))

    def test_what_is_given_and_told_may_be_altered(self):
        series = weekly(3)
        self.device.add("three", series, ("lamp",))
        for altered in (series, self.device.entry("one")[1], self.device.outgoing()[3][2]):
            altered.unit, altered.length = 4, 1
        self.assertEqual(self.sends(("add", "three", weekly(3), ("lamp",))), ("done", 3))
        self.device.answers()[0][0][2].unit = 4
        self.assertEqual(self.answers()[0][0], act_of(("add", "three", weekly(3), ("lamp",))))
        self.assertEqual(parts_of(self.device.entry("one")[1]), parts_of(weekly(1)))


class KnownTest(DeviceTest):
    """Which bookings are known: those of the kept versions, changed by the acts of the queue in order."""

    def test_from_a_feed(self):
        for name in ("three", "new", "red", ""):
            self.unknown(name)
        for method, rest, act in CALLS[1:]:
            self.device.reply("one", "ann", "asked")
            getattr(self.device, method)("two", *rest)
        self.assertEqual(self.device.waiting(), 10)

    def test_acts_of_the_queue(self):
        self.device.add("three", weekly(3), ("lamp",))
        self.device.drop("three", 11)
        self.device.remove("three")
        self.unknown("three")
        self.device.remove("one")
        self.unknown("one")
        self.device.add("one", weekly(1), ("lamp",))
        self.device.divide("one", 17, "new")
        for name in ("one", "new", "two"):
            self.device.invite(name, "ann")
        self.device.remove("new")
        self.unknown("new")
        self.device.divide("two", 18, "new")
        self.device.reply("new", "ann", "coming")
        self.device.divide("new", 22, "three")
        self.device.remove("three")
        self.unknown("three")
        self.device.remove("new")
        self.unknown("new")

    def test_answers(self):
        device = Device(1)
        device.add("three", weekly(3), ("lamp",))
        self.assertEqual(self.sends(("add", "three", weekly(3), ("lamp",)), device), ("done", 3))
        device.divide("three", 15, "new")
        self.assertEqual(self.sends(("split", "three", 3, 15, "new"), device), ("done", 4))
        device.drop("new", 19)
        device.drop("three", 11)
        self.assertEqual(self.sends(("drop", "new", 4, 19), device), ("done", 5))
        self.assertEqual(self.sends(("drop", "three", 4, 11), device), ("done", 6))
        device.remove("new")
        self.assertEqual(self.sends(("remove", "new", 5), device), ("done", 7))
        self.unknown("new", device)
        for name in ("one", "two"):
            self.unknown(name, device)

    def test_a_refused_act_makes_nothing_known(self):
        self.device.add("three", weekly(1), ("red",))
        self.device.reply("three", "ann", "asked")
        self.device.divide("one", 10, "new")
        self.device.reply("new", "ann", "asked")
        self.assertEqual(self.sends(("add", "three", weekly(1), ("red",))), ("refused", "clash", "red", 54))
        self.unknown("three")
        self.assertEqual(self.sends(("reply", "three", "ann", "asked")), ("refused", "unknown"))
        self.assertEqual(self.sends(("split", "one", 1, 10, "new")), ("refused", "day"))
        self.unknown("new")
        self.assertEqual(self.sends(("reply", "new", "ann", "asked")), ("refused", "unknown"))

    def test_a_refused_remove(self):
        self.server.do(("drop", "one", 1, 9))
        self.device.remove("one")
        self.unknown("one")
        self.assertEqual(self.sends(("remove", "one", 1)), ("refused", "stale"))
        # The version that was heard of last is kept, so the booking is known again.
        self.device.remove("one")
        self.assertEqual(self.sends(("remove", "one", 1)), ("refused", "stale"))

    def test_feeds_that_tell_of_removals(self):
        self.server.do(("remove", "one", 1))
        self.device.drop("one", 9)
        self.device.pull()
        self.assertEqual(self.sends(("drop", "one", 1, 9)), ("refused", "unknown"))
        self.device.invite("one", "ann")
        self.assertEqual(self.sends(("invite", "one", 1, "ann")), ("refused", "unknown"))
        self.turn()
        self.unknown("one")


class VersionsTest(DeviceTest):
    """The versions with which acts are put into the queue and sent."""

    def test_the_version_that_was_heard_of_last(self):
        for method, rest, act in CALLS:
            device = Device(9)
            server = Server()
            for number in range(3):
                server.do(("add", f"b{number}", weekly(number), ("red",)))
            device.pull()
            device.receive(server.receive(device.outgoing()))
            getattr(device, method)("b1", *rest)
            self.assertEqual(device.outgoing(), ("ask", 9, 2, act("b1", 2)))

    def test_from_an_answer(self):
        self.device.drop("one", 9)
        self.assertEqual(self.sends(("drop", "one", 1, 9)), ("done", 3))
        self.device.drop("one", 13)
        self.assertEqual(self.sends(("drop", "one", 3, 13)), ("done", 4))
        self.device.reply("one", "ann", "asked")
        self.assertEqual(self.sends(("reply", "one", "ann", "asked")), ("refused", "guest"))
        self.device.invite("one", "ann")
        self.assertEqual(self.sends(("invite", "one", 4, "ann")), ("done", 5))
        self.device.reply("one", "ann", "asked")
        self.assertEqual(self.sends(("reply", "one", "ann", "asked")), ("done", 6))
        self.device.remove("one")
        self.assertEqual(self.sends(("remove", "one", 6)), ("done", 7))

    def test_what_is_heard_later_does_not_alter_it(self):
        self.device.drop("one", 9)
        self.device.drop("two", 10)
        self.server.do(("drop", "two", 2, 14))
        self.assertEqual(self.sends(("drop", "one", 1, 9)), ("done", 4))
        self.assertEqual(self.sends(("drop", "two", 2, 10)), ("refused", "stale"))
        # Behind a pull an act has the new version; one that was queued before the feed came keeps the old one.
        self.device.pull()
        request = self.device.outgoing()
        self.device.drop("two", 10)
        self.device.receive(self.server.receive(request))
        self.assertEqual(self.sends(("drop", "two", 2, 10)), ("refused", "stale"))
        self.device.drop("two", 10)
        self.assertEqual(self.sends(("drop", "two", 3, 10)), ("done", 5))

    def test_acts_that_follow_others(self):
        self.device.add("three", weekly(3), ("lamp",))
        self.device.drop("three", 11)
        self.device.divide("three", 19, "new")
        self.device.invite("new", "ann")
        self.device.move("three", 15, 93, 2)
        self.device.reply("new", "ann", "coming")
        self.device.remove("new")
        self.device.remove("three")
        self.device.add("new", weekly(0), ("lamp",))
        self.device.drop("new", 12)
        for number, act in enumerate((("add", "three", weekly(3), ("lamp",)), ("drop", "three", 3, 11),
                                      ("split", "three", 4, 19, "new"), ("invite", "new", 5, "ann"),
                                      ("move", "three", 5, 15, 93, 2), ("reply", "new", "ann", "coming"),
                                      ("remove", "new", 8), ("remove", "three", 7),
                                      ("add", "new", weekly(0), ("lamp",)), ("drop", "new", 11, 12)), start=3):
            self.assertEqual(self.device.waiting(), 13 - number)
            self.assertEqual(self.sends(act), ("done", number))
        self.assertIsNone(self.device.outgoing())

    def test_an_act_under_way_is_followed(self):
        self.device.drop("one", 9)
        request = self.device.outgoing()
        self.device.drop("one", 13)
        self.assertEqual(self.device.outgoing(), request)
        self.device.receive(self.server.receive(request))
        self.assertEqual(self.sends(("drop", "one", 3, 13)), ("done", 4))

    def test_other_devices_between(self):
        # The number that the act before was answered with is not the version any more.
        self.device.drop("one", 9)
        self.device.drop("one", 13)
        self.device.drop("one", 17)
        self.assertEqual(self.sends(("drop", "one", 1, 9)), ("done", 3))
        self.server.do(("invite", "one", 3, "ann"))
        self.assertEqual(self.sends(("drop", "one", 3, 13)), ("refused", "stale"))
        self.assertEqual((self.device.waiting(), self.device.outgoing()), (0, None))
        self.assertEqual(self.answers()[2], (("drop", "one", None, 17), UNDONE))

    def test_acts_on_other_bookings_are_not_followed(self):
        self.device.drop("one", 9)
        self.device.drop("two", 10)
        self.device.reply("one", "ann", "asked")
        self.device.drop("two", 14)
        self.device.drop("one", 13)
        for act, answer in ((("drop", "one", 1, 9), ("done", 3)), (("drop", "two", 2, 10), ("done", 4)),
                            (("reply", "one", "ann", "asked"), ("refused", "guest")),
                            (("drop", "two", 4, 14), ("done", 5))):
            self.assertEqual(self.sends(act), answer)
        # The last act followed the reply, which was refused.
        self.assertEqual(self.answers()[-1], (("drop", "one", None, 13), UNDONE))
        self.assertEqual(self.server.book().series("one").dropped, (9,))


class UndoneTest(DeviceTest):
    """Chains of acts of which one is refused."""

    def chain(self, *spoiling):
        """Puts five drops into the queue; behind each act that is sent one of `spoiling` is done by the server."""
        for day in (9, 13, 17, 21, 25):
            self.device.drop("one", day)
        self.device.drop("two", 10)
        for act in spoiling:
            if act is not None:
                self.assertEqual(self.server.do(act)[0], "done")
            self.turn()
        return [(act[2], answer) for act, answer in self.device.answers()]

    def test_the_first_one(self):
        self.assertEqual(self.chain(("invite", "one", 1, "ann")),
                         [(1, ("refused", "stale")), *[(None, UNDONE)] * 4])
        self.assertEqual(self.device.waiting(), 1)
        self.assertEqual(self.sends(("drop", "two", 2, 10)), ("done", 4))

    def test_one_between(self):
        self.assertEqual(self.chain(None, None, ("invite", "one", 4, "ann")),
                         [(1, ("done", 3)), (3, ("done", 4)), (4, ("refused", "stale")), *[(None, UNDONE)] * 2])
        self.assertEqual(self.sends(("drop", "two", 2, 10)), ("done", 6))

    def test_the_last_one(self):
        self.assertEqual(self.chain(None, None, None, None, ("remove", "one", 6)),
                         [(1, ("done", 3)), (3, ("done", 4)), (4, ("done", 5)), (5, ("done", 6)),
                          (6, ("refused", "unknown"))])
        self.assertEqual(self.sends(("drop", "two", 2, 10)), ("done", 8))

    def test_none(self):
        found = self.chain(None, None, None, None, None, None)
        self.assertEqual([answer for _, answer in found], [("done", number) for number in range(3, 9)])

    def test_they_leave_only_when_they_are_first(self):
        self.device.add("three", weekly(1), ("red",))
        self.device.drop("one", 9)
        self.device.drop("three", 13)
        self.device.drop("one", 13)
        self.device.divide("three", 17, "new")
        self.device.reply("new", "ann", "coming")
        self.device.invite("new", "ann")
        self.assertEqual(self.sends(("add", "three", weekly(1), ("red",))), ("refused", "clash", "red", 54))
        self.assertEqual((self.device.waiting(), len(self.device.answers())), (6, 1))
        # The booking is known no more but by what is in the queue.
        self.unknown("three")
        self.device.remove("new")
        self.turn()
        self.assertEqual(self.answers()[1:], [(("drop", "one", 1, 9), ("done", 3)),
                                              (("drop", "three", None, 13), UNDONE)])
        self.turn()
        self.assertEqual(self.answers()[3:], [(("drop", "one", 3, 13), ("done", 4)),
                                              (("split", "three", None, 17, "new"), UNDONE)])
        # A reply follows no act: it is sent. What follows the reply is undone when the reply is refused.
        self.assertEqual(self.device.waiting(), 3)
        self.turn()
        self.assertEqual(self.answers()[5:], [(("reply", "new", "ann", "coming"), ("refused", "unknown")),
                                              (("invite", "new", None, "ann"), UNDONE),
                                              (("remove", "new", None), UNDONE)])
        self.assertEqual((self.device.waiting(), self.device.outgoing()), (0, None))

    def test_numbers_are_not_spent_on_them(self):
        self.chain(("invite", "one", 1, "ann"))
        self.assertEqual(self.device.outgoing(), ("ask", 0, 3, ("drop", "two", 2, 10)))

    def test_an_add_is_sent_all_the_same(self):
        self.device.divide("one", 10, "new")
        self.device.remove("new")
        self.device.add("new", weekly(3), ("lamp",))
        self.device.drop("new", 11)
        self.turn()
        self.assertEqual(self.answers(), [(("split", "one", 1, 10, "new"), ("refused", "day")),
                                          (("remove", "new", None), UNDONE)])
        self.assertEqual(self.sends(("add", "new", weekly(3), ("lamp",))), ("done", 3))
        self.assertEqual(self.sends(("drop", "new", 3, 11)), ("done", 4))


class RepliesTest(DeviceTest):
    """Only the reply to the request under way is taken in."""

    def state(self, device):
        return (device.names(), device.token(), device.waiting(), [act_of(act) for act, _ in device.answers()],
                message_of(device.outgoing()))

    def test_wrong_replies_to_an_ask(self):
        self.device.drop("one", 9)
        self.device.drop("one", 13)
        self.device.pull()
        before = self.state(self.device)
        self.assertEqual(before[4], ("ask", 0, 2, ("drop", "one", 1, 9)))
        for reply in (("answer", 1, 2, ("done", 3)), ("answer", 0, 1, ("done", 3)), ("answer", 0, 3, ("done", 3)),
                      ("answer", 0, 0, ("refused", "stale")), ("feed", 0, 2, 3, (("one", 3, None),)),
                      ("feed", 0, 1, 3, ()), ("feed", 1, 2, 3, ()), ("answer", -1, 2, ("done", 3))):
            self.device.receive(reply)
            self.assertEqual(self.state(self.device), before)
        answer = self.server.receive(self.device.outgoing())
        self.device.receive(answer)
        before = self.state(self.device)
        self.assertEqual(before[4], ("ask", 0, 3, ("drop", "one", 3, 13)))
        # The same answer once more is late.
        self.device.receive(answer)
        self.assertEqual(self.state(self.device), before)

    def test_wrong_replies_to_a_pull(self):
        self.device.pull()
        before = self.state(self.device)
        self.assertEqual(before[4], ("pull", 0, 2, 2))
        for reply in (("answer", 0, 2, ("done", 3)), ("feed", 0, 1, 5, (("one", 5, None),)),
                      ("feed", 0, 3, 5, (("one", 5, None),)), ("feed", 1, 2, 5, (("one", 5, None),))):
            self.device.receive(reply)
            self.assertEqual(self.state(self.device), before)
        self.server.do(("remove", "one", 1))
        feed = self.server.receive(self.device.outgoing())
        self.device.receive(feed)
        self.server.do(("remove", "two", 2))
        self.device.pull()
        self.turn()
        before = self.state(self.device)
        self.assertEqual((before[:2]), ((), 4))
        self.device.receive(feed)
        self.assertEqual(self.state(self.device), before)

    def test_nothing_under_way(self):
        for reply in (("answer", 0, 1, ("done", 3)), ("answer", 0, 2, ("done", 3)), ("feed", 0, 1, 9, ()),
                      ("feed", 0, 2, 9, (("one", 9, None),))):
            self.device.receive(reply)
            self.assertEqual(self.state(self.device), (("one", "two"), 2, 0, [], None))
        # An act that was not sent yet is not under way.
        self.device.drop("one", 9)
        self.device.receive(("answer", 0, 2, ("done", 3)))
        self.assertEqual((self.device.waiting(), self.device.answers()), (1, ()))

    def test_the_same_request_until_its_reply_has_come(self):
        self.device.add("three", weekly(3), ("lamp",))
        request = self.device.outgoing()
        for _ in range(3):
            self.device.drop("one", 9) if self.device.waiting() == 1 else self.device.pull()
            self.assertEqual(message_of(self.device.outgoing()), message_of(request))
        self.server.receive(request)
        self.assertEqual(self.sends(("add", "three", weekly(3), ("lamp",))), ("done", 3))
        self.assertEqual(told(self.server.book())["three"], (parts_of(weekly(3)), ("lamp",), ()))


class PullTest(DeviceTest):
    def test_a_pull_is_sent_only_if_the_queue_is_empty(self):
        self.device.pull()
        self.device.drop("one", 9)
        self.device.drop("one", 13)
        self.assertEqual(self.sends(("drop", "one", 1, 9)), ("done", 3))
        self.device.pull()
        self.assertEqual(self.sends(("drop", "one", 3, 13)), ("done", 4))
        self.assertEqual(self.turn(), ("pull", 0, 4, 2))
        # The feed ended both wishes.
        self.assertIsNone(self.device.outgoing())
        self.assertEqual(self.device.token(), 4)

    def test_wishes_while_a_pull_is_under_way(self):
        self.device.pull()
        request = self.device.outgoing()
        self.device.pull()
        self.device.drop("one", 9)
        self.assertEqual(self.device.outgoing(), request)
        self.device.receive(self.server.receive(request))
        self.assertEqual(self.sends(("drop", "one", 1, 9)), ("done", 3))
        self.assertIsNone(self.device.outgoing())
        self.device.pull()
        self.assertEqual(self.turn(), ("pull", 0, 4, 2))
        self.assertEqual((self.device.outgoing(), self.device.token()), (None, 3))

    def test_a_wrong_feed_ends_no_wish(self):
        self.device.pull()
        request = self.device.outgoing()
        self.device.receive(("feed", 0, 1, 2, ()))
        self.device.receive(("feed", 1, 2, 2, ()))
        self.assertEqual(self.device.outgoing(), request)

    def test_an_answer_ends_no_wish(self):
        self.device.drop("one", 9)
        request = self.device.outgoing()
        self.device.pull()
        self.device.receive(self.server.receive(request))
        self.assertEqual(self.device.outgoing(), ("pull", 0, 3, 2))
