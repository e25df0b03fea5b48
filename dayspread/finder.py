"""Finding the first instant that is possible for a need, or that there is none (points 7.1 to 7.4).

From an instant that is not possible on, the block that reaches furthest is taken; the next one begins where it ends.
A later block never reaches less far than an earlier one, so no row of blocks is shorter, and no step is needless.
"""

from math import lcm

from dayspread.papers import repetitions

# So many days of occurrences are looked up at once.
DAYS_AT_ONCE = 16


class Track:
    """The occurrences of a booking, gone through in ascending order, where those between can be left out."""

    def __init__(self, name, series):
        self.name = name
        self._series = series
        self._covered = series.spans()
        # Ascending rows (start, end, day), all of those that start before `_known` and from the first one on.
        self._rows = ()
        self._known = 0
        self._place = 0
        # The start of the first occurrence that was not passed yet, or None.
        self.upcoming = self._covered.first()

    def last_before(self, stop):
        """Passes all occurrences that start before this instant, at least one; returns the last one of them."""
        if stop > self._known:
            # No two occurrences share an instant: the last covered one is in the last occurrence.
            self._look_up(self._covered.last_below(stop))
        rows = self._rows
        place = self._place
        while place + 1 < len(rows) and rows[place + 1][0] < stop:
            place = place + 1
        self._place = place
        if place + 1 < len(rows):
            self.upcoming = rows[place + 1][0]
        else:
            self.upcoming = self._covered.next_from(rows[place][1])
        return rows[place]

    def _look_up(self, instant):
        """Looks up the occurrences from that on which contains the instant."""
        self._known = instant + DAYS_AT_ONCE * self._series.zone.calendar.day
        self._rows = self._series.occurrences(instant, self._known)
        self._place = 0


class Search:
    """What stands against the instants from the start of a need on, asked in ascending order."""

    def __init__(self, need, bookings):
        self._need = need
        self._closed = ~need.hours
        self._tracks = [Track(name, series) for name, series in bookings.items()]
        # How far the occurrences that were passed reach, and the reason that tells it.
        self._reach = -1
        self._reason = None

    def furthest(self, instant):
        """The end and the reason of the block from this instant on that reaches furthest; it may reach nowhere."""
        need = self._need
        self._pass_occurrences(instant + need.length + need.after)
        closed = self._closed.last_below(instant + need.length)
        if closed is not None and closed >= self._reach:
            return closed + 1, ("hours", closed)
        return self._reach, self._reason

    def _pass_occurrences(self, stop):
        """Takes in all occurrences that start before this instant."""
        for track in self._tracks:
            if track.upcoming is not None and track.upcoming < stop:
                _, end, day = track.last_before(stop)
                if end + self._need.before > self._reach:
                    self._reach = end + self._need.before
                    self._reason = ("busy", track.name, day)


def find(book, need):
    """A certificate for the least possible instant, or for that there is none."""
    bookings = book.bookings_of(need.resources)
    since = need.start
    period = 1
    for low, step in repetitions(bookings, need):
        since = max(since, low)
        period = lcm(period, step)
    search = Search(need, bookings)
    at = need.start
    blocks = []
    while at < since + period:
        end, reason = search.furthest(at)
        if end <= at:
            return "found", at, tuple(blocks)
        end = min(end, since + period)
        blocks.append((at, end, reason))
        at = end
    return "never", since, period, tuple(blocks)
