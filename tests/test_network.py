"""Point 9.3: messages under way, and whole histories with loss, repetition and other orders."""

import random
import unittest

from dayspread.device import Device
from dayspread.errors import UnknownBooking
from dayspread.network import Network
from dayspread.server import Server
from dayspread.series import Series
from dayspread.zone import Zone
from tests.rule_samples import NEVER
from tests.samples import SMALL
from tests.telling import act_of, entry_of, message_of, parts_of, told

PLAIN = Zone(SMALL, 0)


def weekly(weekday, unit=0, length=2, **more):
    return Series(PLAIN, (("weeks", 1, (weekday,)), 8, NEVER), unit, length, **more)


class PlacesTest(unittest.TestCase):
    def setUp(self):
        self.server = Server()
        self.devices = [Device(number) for number in range(3)]
        self.network = Network(self.server, self.devices)

    def messages(self):
        return [message_of(message) for message in self.network.messages()]

    def test_nothing_to_send(self):
        self.assertEqual(self.network.messages(), [])
        for number in range(3):
            self.assertIs(self.network.send(number), False)
        self.assertEqual(self.network.messages(), [])

    def test_sent_at_the_end(self):
        for number in (1, 0, 2):
            self.devices[number].pull()
            self.assertIs(self.network.send(number), True)
        self.assertEqual(self.messages(), [("pull", 1, 1, 0), ("pull", 0, 1, 0), ("pull", 2, 1, 0)])
        # The same request may be under way more than once.
        self.assertIs(self.network.send(1), True)
        self.assertEqual(self.messages()[2:], [("pull", 2, 1, 0), ("pull", 1, 1, 0)])

    def test_delivered(self):
        for number in range(3):
            self.devices[number].add(f"b{number}", weekly(number), ("red",))
            self.network.send(number)
        add = [("ask", number, 1, act_of(("add", f"b{number}", weekly(number), ("red",)))) for number in range(3)]
        self.assertEqual(self.messages(), add)
        self.network.deliver(1)
        self.assertEqual(self.messages(), [add[0], add[2], ("answer", 1, 1, ("done", 1))])
        self.assertEqual(self.devices[1].waiting(), 1)
        self.network.deliver(1)
        self.assertEqual(self.messages(), [add[0], ("answer", 1, 1, ("done", 1)), ("answer", 2, 1, ("done", 2))])
        self.network.deliver(1)
        self.assertEqual(self.messages(), [add[0], ("answer", 2, 1, ("done", 2))])
        self.assertEqual([device.waiting() for device in self.devices], [1, 0, 1])
        self.network.deliver(0)
        self.network.deliver(1)
        self.assertEqual(self.messages(), [("answer", 2, 1, ("done", 2))])
        self.assertEqual([device.waiting() for device in self.devices], [0, 0, 1])
        self.assertEqual(self.server.book().names(), ("b0", "b1", "b2"))
        self.network.deliver(0)
        self.assertEqual((self.messages(), self.devices[2].answers()[0][1]), ([], ("done", 2)))

    def test_repeated_and_lost(self):
        for number in range(3):
            self.devices[number].pull()
            self.network.send(number)
        for place, expected in ((1, [0, 1, 2, 1]), (3, [0, 1, 2, 1, 1]), (0, [0, 1, 2, 1, 1, 0])):
            self.network.repeat(place)
            self.assertEqual([message[1] for message in self.messages()], expected)
        for place, expected in ((1, [0, 2, 1, 1, 0]), (4, [0, 2, 1, 1]), (0, [2, 1, 1]), (1, [2, 1]), (1, [2])):
            self.network.lose(place)
            self.assertEqual([message[1] for message in self.messages()], expected)
        self.network.repeat(0)
        self.network.deliver(0)
        self.network.deliver(0)
        # Both are replied to by the same feed.
        self.assertEqual(self.messages(), [("feed", 2, 1, 0, [])] * 2)
        self.network.repeat(1)
        self.network.deliver(2)
        self.assertEqual((self.messages(), self.network.send(2)), ([("feed", 2, 1, 0, [])] * 2, False))
        self.network.deliver(0)
        self.network.lose(0)
        self.assertEqual(self.messages(), [])

    def test_a_request_without_a_reply(self):
        self.devices[0].pull()
        self.network.send(0)
        self.network.repeat(0)
        self.network.deliver(0)
        self.network.deliver(1)
        self.devices[0].pull()
        self.network.send(0)
        self.network.deliver(1)
        self.assertEqual(self.messages(), [("pull", 0, 1, 0), ("feed", 0, 2, 0, [])])
        # The first request comes too late by now.
        self.network.deliver(0)
        self.assertEqual(self.messages(), [("feed", 0, 2, 0, [])])

    def test_a_lost_reply(self):
        self.devices[1].add("one", weekly(1), ("red",))
        for _ in range(4):
            self.network.send(1)
            self.network.deliver(0)
            self.network.lose(0)
        self.assertEqual((self.server.total(), self.devices[1].waiting()), (1, 1))
        self.network.send(1)
        self.network.deliver(0)
        self.network.deliver(0)
        self.assertEqual((self.server.total(), self.devices[1].waiting()), (1, 0))
        self.assertEqual(self.devices[1].answers()[0][1], ("done", 1))

    def test_lists(self):
        self.devices[0].pull()
        self.network.send(0)
        given = self.network.messages()
        self.assertIs(type(given), list)
        given.append(("pull", 0, 1, 0))
        given[0] = None
        self.assertEqual(self.messages(), [("pull", 0, 1, 0)])
        kept = self.network.messages()
        self.network.lose(0)
        self.assertEqual(kept, [("pull", 0, 1, 0)])
        # The list that was passed may be changed; the devices are those that were passed.
        first = self.devices[0]
        self.devices[0] = Device(0)
        del self.devices[1:]
        self.assertIs(self.network.send(0), True)
        self.assertEqual(message_of(first.outgoing()), self.messages()[0])
        self.network.deliver(0)
        self.network.deliver(0)
        self.assertIsNone(first.outgoing())
        self.assertIs(self.network.send(2), False)

    def test_the_very_server(self):
        self.server.do(("add", "one", weekly(1), ("red",)))
        self.devices[2].pull()
        for _ in range(2):
            self.network.send(2)
            self.network.deliver(0)
        self.assertEqual(self.devices[2].names(), ("one",))


class Record(Server):
    """A server that notes which acts it carries out."""

    def __init__(self):
        super().__init__()
        self.acts = []

    def do(self, act):
        answer = super().do(act)
        self.acts.append((act_of(act), answer))
        return answer


class HistoriesTest(unittest.TestCase):
    """Random acts of several devices over a network that loses, repeats and reorders messages."""

    NAMES = ("a", "b", "c", "d")

    def queue_some(self, source, device):
        name, day = source.choice(self.NAMES), source.choice((9, 13, 17, 21, 10))
        call = source.choice((
            ("add", name, weekly(source.randrange(4)), (source.choice(("red", "blue")),)), ("remove", name),
            ("drop", name, day), ("move", name, day, source.randrange(600), source.randint(1, 4)),
            ("divide", name, day, source.choice(self.NAMES)), ("invite", name, source.choice(("ann", "bob"))),
            ("reply", name, source.choice(("ann", "bob")), source.choice(("coming", "absent")))))
        try:
            getattr(device, call[0])(*call[1:])
        except UnknownBooking:
            return 0
        return 1

    def step(self, source, network):
        many = len(network.messages())
        if many == 0 or source.random() < 0.3:
            network.send(source.randrange(3))
            return
        place = source.randrange(many)
        word = source.choice(("deliver", "deliver", "deliver", "repeat", "lose") if many < 12 else ("deliver", "lose"))
        getattr(network, word)(place)

    def settle(self, network, devices):
        """Everything is sent and delivered, in order."""
        for _ in range(10 ** 4):
            sent = [network.send(number) for number in range(len(devices))]
            while network.messages():
                network.deliver(0)
            if not any(sent):
                return
        self.fail("the devices go on sending")

    def test_histories(self):
        source = random.Random(93)
        kinds = {}
        for _ in range(150):
            server, devices = Record(), [Device(number) for number in range(3)]
            network = Network(server, devices)
            queued = [0, 0, 0]
            for _ in range(source.randint(50, 400)):
                number = source.randrange(3)
                if source.random() < 0.15:
                    queued[number] += self.queue_some(source, devices[number])
                elif source.random() < 0.08:
                    devices[number].pull()
                else:
                    self.step(source, network)
            self.settle(network, devices)
            for device in devices:
                device.pull()
            self.settle(network, devices)
            self.agree(server, devices, queued)
            for device in devices:
                for _, answer in device.answers():
                    kinds[answer[:2] if answer[0] == "refused" else "done"] = True
        self.assertGreater(len(kinds), 6, kinds)

    def agree(self, server, devices, queued):
        """Each act was carried out once at most, in order; and all tell the same in the end."""
        left = list(server.acts)
        for device, many in zip(devices, queued):
            answers = [(act_of(act), answer) for act, answer in device.answers()]
            self.assertEqual((len(answers), device.waiting()), (many, 0))
            sent = [row for row in answers if row[1] != ("refused", "undone")]
            for row in sent:
                left.remove(row)
        self.assertEqual(left, [])
        book = told(server.book())
        for device in devices:
            found = {name: entry_of(device.entry(name)[1:]) for name in device.names()}
            self.assertEqual(found, book)
            self.assertEqual({name: device.entry(name)[0] for name in found},
                             {name: server.version(name) for name in found})
            self.assertEqual(device.token(), server.total())
        done = [answer[1] for _, answer in server.acts if answer[0] == "done"]
        self.assertEqual(done, list(range(1, server.total() + 1)))

    def test_the_order_of_a_queue(self):
        """The acts of each device are carried out in the order of its queue, whatever the network does."""
        source = random.Random(931)
        for _ in range(20):
            server, devices = Record(), [Device(number) for number in range(3)]
            network = Network(server, devices)
            for number, device in enumerate(devices):
                for turn in range(12):
                    device.add(f"n{number}x{turn}", weekly(1, unit=number), (f"r{number}x{turn}",))
            for _ in range(300):
                self.step(source, network)
            self.settle(network, devices)
            names = [act[1] for act, answer in server.acts]
            self.assertEqual(len(names), 36)
            for number in range(3):
                expected = [f"n{number}x{turn}" for turn in range(12)]
                self.assertEqual([name for name in names if name.startswith(f"n{number}")], expected)
                self.assertEqual([act[1] for act, _ in devices[number].answers()], expected)
            self.assertEqual([answer for _, answer in server.acts], [("done", at) for at in range(1, 37)])

    def test_parts_of_messages(self):
        device, server = Device(0), Server()
        network = Network(server, [device])
        series = weekly(2, dropped=(10,))
        device.add("one", series, ("red",))
        network.send(0)
        self.assertEqual(parts_of(network.messages()[0][3][2]), parts_of(series))
        network.deliver(0)
        self.assertEqual(network.messages(), [("answer", 0, 1, ("done", 1))])
