"""Blocks and certificates: why no instant before an answer is possible (points 7.2 to 7.4)."""

from dayspread.needs import is_possible


def is_closed(need, block):
    """True if the hours do not contain an instant, so that the block is right."""
    instant = block[2][1]
    if not block[1] - 1 <= instant < block[0] + need.length:
        return False
    return instant >= 0 and instant not in need.hours


def is_held(bookings, need, block):
    """True if one of the bookings, given by name, has an occurrence so that the block is right."""
    _, name, day = block[2]
    occurrence = bookings[name].occurrence(day) if name in bookings else None
    if occurrence is None:
        return False
    start, end = occurrence
    return block[1] - 1 - need.before < end and start < block[0] + need.length + need.after


def is_right_among(bookings, need, block):
    """True if the block is right, where these are the bookings that have a resource of the need."""
    if block[0] >= block[1]:
        return False
    return is_closed(need, block) if block[2][0] == "hours" else is_held(bookings, need, block)


def is_right(book, need, block):
    """True if the value is a right block."""
    return is_right_among(book.bookings_of(need.resources), need, block)


def covers_from(blocks, start, stop):
    """True if the value is a row of blocks that covers from start to stop."""
    at = start
    for block in blocks:
        if block[0] != at or block[0] >= block[1]:
            return False
        at = block[1]
    return at == stop


def repetitions(bookings, need):
    """The pairs (since, period) by which the hours and each of the bookings repeat, as the need sees them."""
    found = [(need.hours.since, need.hours.period)]
    for series in bookings.values():
        since, period = series.settled()
        found.append((since + need.before, period))
    return found


def comes_again(bookings, need, since, period):
    """True if what is possible from `since` on is so again after the period."""
    if since < need.start:
        return False
    return all([low <= since and period % step == 0 for low, step in repetitions(bookings, need)])


def is_certificate(book, need, certificate):
    """True if the value is a certificate."""
    bookings = book.bookings_of(need.resources)
    blocks = certificate[-1]
    stop = certificate[1]
    if certificate[0] == "never":
        _, since, period, _ = certificate
        stop = since + period
        if not comes_again(bookings, need, since, period):
            return False
    elif not is_possible(book, need, stop):
        return False
    return covers_from(blocks, need.start, stop) and all([is_right_among(bookings, need, block) for block in blocks])
