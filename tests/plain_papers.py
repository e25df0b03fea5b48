"""A plain judge of instants, blocks and certificates, by the words of points 7.1 to 7.4.

A plain booking is told by what it has (its resources and its coming guests), its occurrences by their days, as
(start, end), the pair from which on and with which period it is settled, and a test of whether it covers an instant.
"""

from tests.plain import belongs


class PlainBooking:
    """A booking of a sample; its instants far away are told by its period."""

    def __init__(self, has, sample):
        self.has = has
        self.days = {day: (start, end) for start, end, day in sample.rows}
        self.settled = sample.settled()
        self.counts = sample.counts

    def covers(self, instant):
        since, period = self.settled
        if instant >= since + period:
            instant = since + (instant - since) % period
        return instant in self.counts


class PlainNeed:
    """A need whose hours are told by the four values of point 4.1."""

    def __init__(self, resources, length, told, before, after, start):
        self.resources, self.length, self.told = resources, length, told
        self.before, self.after, self.start = before, after, start

    def wants(self, booking):
        return any(resource in booking.has for resource in self.resources)


def is_possible(bookings, need, instant):
    if instant < need.start or not all(belongs(need.told, t) for t in range(instant, instant + need.length)):
        return False
    held = [booking for booking in bookings.values() if need.wants(booking)]
    looked_at = range(max(0, instant - need.before), instant + need.length + need.after)
    return not any(booking.covers(t) for t in looked_at for booking in held)


def is_right(bookings, need, block):
    a, b, reason = block
    if a >= b:
        return False
    if reason[0] == "hours":
        u = reason[1]
        return u >= 0 and not belongs(need.told, u) and b - 1 <= u < a + need.length
    _, name, day = reason
    if name not in bookings or not need.wants(bookings[name]) or day not in bookings[name].days:
        return False
    s, e = bookings[name].days[day]
    return b - 1 - need.before < e and s < a + need.length + need.after


def covers(blocks, start, stop):
    if not blocks:
        return start == stop
    for block, after in zip(blocks, blocks[1:]):
        if after[0] != block[1]:
            return False
    return all(a < b for a, b, _ in blocks) and blocks[0][0] == start and blocks[-1][1] == stop


def is_certificate(bookings, need, hours, certificate):
    """The hours are the pair (since, period) of their normal form."""
    blocks = certificate[-1]
    if not all(is_right(bookings, need, block) for block in blocks):
        return False
    if certificate[0] == "found":
        return is_possible(bookings, need, certificate[1]) and covers(blocks, need.start, certificate[1])
    _, since, period, _ = certificate
    settled = [booking.settled for booking in bookings.values() if need.wants(booking)]
    return (since >= need.start and covers(blocks, need.start, since + period) and period % hours[1] == 0
            and hours[0] <= since and all(period % p == 0 and s + need.before <= since for s, p in settled))
