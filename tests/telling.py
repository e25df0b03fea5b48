"""What is told of series, books and entries, in values that can be compared."""


def zone_of(zone):
    """The values of a zone and of its calendar."""
    calendar = zone.calendar
    return (zone.offset, zone.shift, zone.on, zone.off, calendar.months, calendar.long_month, calendar.extra,
            calendar.cycle, calendar.long_years, calendar.week, calendar.day)


def parts_of(series):
    """The values of a series."""
    return zone_of(series.zone), series.rule, series.unit, series.length, series.dropped, series.moved


def told(book):
    """All that a book tells of its bookings."""
    return {name: (parts_of(book.series(name)), book.resources(name), book.guests(name)) for name in book.names()}


def entry_of(entry):
    """An entry of the feed, in values that can be compared."""
    return None if entry is None else (parts_of(entry[0]), *entry[1:])


def changes_of(changes):
    """Changes, in values that can be compared."""
    return [(name, version, entry_of(entry)) for name, version, entry in changes]


def act_of(act):
    """An act, in values that can be compared."""
    return (*act[:2], parts_of(act[2]), act[3]) if act[0] == "add" else act


def message_of(message):
    """A message, in values that can be compared."""
    if message is None:
        return None
    if message[0] == "ask":
        return (*message[:3], act_of(message[3]))
    if message[0] == "feed":
        return (*message[:4], changes_of(message[4]))
    return message
