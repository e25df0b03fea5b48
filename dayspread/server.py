"""The server: a book whose changes are counted, and the requests of devices (points 8.1 to 8.4)."""

from dayspread.acts import WITH_VERSION, concerned, refusal
from dayspread.book import Book
from dayspread.keeping import told_changes


def told_reply(reply):
    """The reply as it is told: the same one each time."""
    if reply[0] == "answer":
        return reply
    word, device, number, count, changes = reply
    return word, device, number, count, told_changes(changes)


class Server:
    """A server, with an empty book at first."""

    def __init__(self):
        self._book = Book()
        self._total = 0
        # By name, also of bookings that were removed: the number of the last change.
        self._versions = {}
        # By device: the number and the reply of its last request.
        self._last = {}

    def do(self, act):
        """Carries out an act; returns its answer."""
        why = self._check_version(act)
        if why is None:
            why = refusal(self._book, act)
        if why is not None:
            return ("refused", *why)
        self._total = self._total + 1
        for name in concerned(act):
            self._versions[name] = self._total
        return "done", self._total

    def book(self):
        """A copy of the book."""
        return self._book.copy()

    def total(self):
        """The number of changes."""
        return self._total

    def version(self, name):
        """The number of the last change of a name; 0 if there never was a booking with this name."""
        return self._versions.get(name, 0)

    def changes(self, token):
        """The tuple of the changes since a token."""
        return told_changes(self._changes(token))

    def receive(self, message):
        """Handles a request; returns the reply, or None if there is none."""
        word, device, number, asked = message
        known, reply = self._last.get(device, (0, None))
        if number == known + 1:
            reply = self._reply(word, device, number, asked)
            self._last[device] = (number, reply)
        elif number != known or reply is None:
            return None
        return told_reply(reply)

    def _changes(self, token):
        """The changes since a token, with kept series."""
        rows = sorted([(version, name) for name, version in self._versions.items() if version > token])
        return tuple([(name, version, self._book.entry(name)) for version, name in rows])

    def _check_version(self, act):
        """The refusal of an act that needs another version, or None."""
        if act[0] not in WITH_VERSION:
            return None
        if self._book.entry(act[1]) is None:
            return ("unknown",)
        return None if act[2] == self.version(act[1]) else ("stale",)

    def _reply(self, word, device, number, asked):
        """Carries out a request; returns the reply, a feed with kept series."""
        if word == "ask":
            return "answer", device, number, self.do(asked)
        return "feed", device, number, self._total, self._changes(asked)
