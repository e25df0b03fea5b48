"""Devices: a copy of the book, and a queue of acts that are sent one after another (points 9.1 and 9.2)."""

from dayspread.acts import concerned
from dayspread.errors import UnknownBooking
from dayspread.keeping import Kept, told_entry

UNDONE = ("refused", "undone")


def told_act(act):
    """The act as it is told: the same one each time."""
    return ("add", act[1], act[2].told(), act[3]) if act[0] == "add" else act


class Item:
    """An act in the queue; the series of an add is a Kept one."""

    def __init__(self, act, before):
        self.act = act
        # The item that this one follows, whose answer tells the version; None if it follows none.
        self.before = before
        self.answer = None

    def is_undone(self):
        """True if the act cannot be sent, since the one that it follows was refused."""
        return self.before is not None and self.before.answer[0] == "refused"

    def take_version(self):
        """Gives the act the number that the one that it follows was answered with."""
        if self.before is not None:
            rest = self.act[3:]
            self.act = (self.act[0], self.act[1], self.before.answer[1], *rest)
            # Nothing more is asked of the item before, which may follow another one in its turn.
            self.before = None


class Device:
    """A device, with an empty copy at first."""

    def __init__(self, number):
        self._number = number
        # By name, from feeds alone: the version and the entry, which has a kept series.
        self._copy = {}
        self._token = 0
        # By name: the version that was heard of last, in a feed or in an answer.
        self._versions = {}
        self._queue = []
        self._done = []
        self._is_wished = False
        # The number of the last request, and that request itself while it is under way.
        self._last = 0
        self._sent = None

    def add(self, name, series, resources):
        """Puts an add into the queue."""
        self._queue.append(Item(("add", name, Kept(series), resources), None))

    def remove(self, name):
        """Puts the removal of a booking into the queue."""
        self._put("remove", name, ())

    def drop(self, name, day):
        """Puts the drop of a day into the queue."""
        self._put("drop", name, (day,))

    def move(self, name, day, start, length):
        """Puts the move of a day into the queue."""
        self._put("move", name, (day, start, length))

    def divide(self, name, day, new_name):
        """Puts a split into the queue."""
        self._put("split", name, (day, new_name))

    def invite(self, name, person):
        """Puts an invitation into the queue."""
        self._put("invite", name, (person,))

    def reply(self, name, person, word):
        """Puts the reply of a guest into the queue."""
        self._check_known(name)
        self._queue.append(Item(("reply", name, person, word), None))

    def pull(self):
        """Wishes for a pull."""
        self._is_wished = True

    def outgoing(self):
        """The request that the device sends now, or None if it has nothing to send."""
        if self._sent is None:
            self._sent = self._next_request()
        if self._sent is None or self._sent[0] == "pull":
            return self._sent
        word, device, number, act = self._sent
        return word, device, number, told_act(act)

    def receive(self, reply):
        """Takes in a reply, if it is the one to the request under way."""
        if self._sent is None:
            return
        kind = "answer" if self._sent[0] == "ask" else "feed"
        if reply[:3] != (kind, self._number, self._last):
            return
        self._sent = None
        if kind == "answer":
            self._take_answer(reply[3])
        else:
            self._take_feed(reply[3], reply[4])

    def names(self):
        """The names of the bookings in the copy, ascending."""
        return tuple(sorted(self._copy))

    def entry(self, name):
        """The tuple (version, series, resources, guests) of a booking in the copy."""
        if name not in self._copy:
            raise UnknownBooking("no booking in the copy has the name")
        version, entry = self._copy[name]
        told = told_entry(entry)
        return (version, *told)

    def token(self):
        """The number of changes that the copy has taken over."""
        return self._token

    def waiting(self):
        """The number of acts in the queue."""
        return len(self._queue)

    def answers(self):
        """The tuple of the pairs (act, answer) so far."""
        return tuple([(told_act(item.act), item.answer) for item in self._done])

    def _put(self, word, name, rest):
        """Puts an act that needs a version into the queue."""
        self._check_known(name)
        before = None
        for item in self._queue:
            if name in concerned(item.act):
                before = item
        version = self._versions[name] if before is None else None
        self._queue.append(Item((word, name, version, *rest), before))

    def _check_known(self, name):
        """Refuses a name of which no booking is known."""
        is_known = name in self._versions
        for item in self._queue:
            word = item.act[0]
            if word == "remove" and item.act[1] == name:
                is_known = False
            elif (word == "add" and item.act[1] == name) or (word == "split" and item.act[4] == name):
                is_known = True
        if not is_known:
            raise UnknownBooking("no booking with the name is known")

    def _next_request(self):
        """A new request for the first act of the queue, or for a pull that was wished for; None if there is none."""
        if not self._queue and not self._is_wished:
            return None
        self._last = self._last + 1
        if not self._queue:
            return "pull", self._number, self._last, self._token
        self._queue[0].take_version()
        return "ask", self._number, self._last, self._queue[0].act

    def _take_answer(self, answer):
        """Takes in the answer to the first act of the queue."""
        item = self._leave(answer)
        if answer[0] == "done":
            for name in concerned(item.act):
                self._hear(name, None if item.act[0] == "remove" else answer[1])
        while self._queue and self._queue[0].is_undone():
            self._leave(UNDONE)

    def _leave(self, answer):
        """Takes the first act off the queue, with its answer; returns it."""
        item = self._queue.pop(0)
        item.answer = answer
        self._done.append(item)
        return item

    def _take_feed(self, count, changes):
        """Takes in what has changed."""
        self._token = count
        self._is_wished = False
        for name, version, entry in changes:
            if entry is None:
                self._copy.pop(name, None)
                self._hear(name, None)
            else:
                series, resources, guests = entry
                self._copy[name] = (version, (Kept(series), resources, guests))
                self._hear(name, version)

    def _hear(self, name, version):
        """Keeps the version of a booking that was heard of; None if it was removed."""
        if version is None:
            self._versions.pop(name, None)
        else:
            self._versions[name] = version
