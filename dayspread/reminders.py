"""Reminders: each occurrence rings some time before it starts (point 10.1)."""


def first_from(series, instant):
    """The first occurrence (start, end, day) that does not start before the instant, or None; no two overlap."""
    covered = series.spans()
    at = covered.next_from(instant)
    row = None if at is None else series.occurrences(at, at + 1)[0]
    if row is None or row[0] >= instant:
        return row
    # This one started earlier; what comes first behind its end is the start of the next one.
    at = covered.next_from(row[1])
    return None if at is None else series.occurrences(at, at + 1)[0]


def rings(book, resource, lead, start, stop):
    """The ascending tuple of the rings from start to stop - 1."""
    found = []
    for name, series in book.bookings_of((resource,)).items():
        rows = series.occurrences(start + lead, stop + lead)
        # An occurrence that started earlier has rung already, or never rings since that were below 0.
        found.extend([(low - lead, name, day) for low, _, day in rows if low >= start + lead])
    return tuple(sorted(found))


def next_ring(book, resource, lead, instant):
    """The first ring whose instant is not below the given one, or None."""
    found = []
    for name, series in book.bookings_of((resource,)).items():
        row = first_from(series, instant + lead)
        if row is not None:
            found.append((row[0] - lead, name, row[2]))
    return min(found) if found else None
