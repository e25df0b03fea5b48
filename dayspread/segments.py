"""Rows of spans, merged, cut and held against each other (point 4.1).

A row is tidy if its spans ascend and at least one instant lies between two of them.
"""


def merged(spans):
    """The tidy spans of the instants that lie in at least one of the spans, which may stand in any order."""
    found = []
    for start, end in sorted(spans):
        if not found or start > found[-1][1]:
            found.append((start, end))
        elif end > found[-1][1]:
            found[-1] = (found[-1][0], end)
    return tuple(found)


def first_behind(spans, instant):
    """The place of the first of the tidy spans that ends behind the instant; their number if none does."""
    low = 0
    high = len(spans)
    while low < high:
        middle = (low + high) // 2
        if spans[middle][1] > instant:
            high = middle
        else:
            low = middle + 1
    return low


def last_before(spans, instant):
    """The last instant below this one that the tidy spans contain, or None."""
    place = first_behind(spans, instant)
    if place < len(spans) and spans[place][0] < instant:
        return instant - 1
    return spans[place - 1][1] - 1 if place > 0 else None


def contains(spans, instant):
    """True if one of the tidy spans contains the instant."""
    place = first_behind(spans, instant)
    return place < len(spans) and spans[place][0] <= instant


def cut(spans, start, stop):
    """The parts of tidy spans that lie within start and stop."""
    if start >= stop:
        return ()
    rows = list(spans[first_behind(spans, start):first_behind(spans, stop) + 1])
    if rows and rows[-1][0] >= stop:
        rows.pop()
    if rows:
        rows[0] = (max(rows[0][0], start), rows[0][1])
        rows[-1] = (rows[-1][0], min(rows[-1][1], stop))
    return tuple(rows)


def gaps(spans, start, stop):
    """The tidy spans of the instants from start to stop - 1 that lie in none of the tidy spans."""
    found = []
    at = start
    for low, high in cut(spans, start, stop):
        if low > at:
            found.append((at, low))
        at = high
    if at < stop:
        found.append((at, stop))
    return tuple(found)


def common(first, second):
    """The tidy spans of the instants that lie in both of two tidy rows."""
    found = []
    one = 0
    two = 0
    while one < len(first) and two < len(second):
        start, end = first[one]
        low, high = second[two]
        if end <= high:
            one = one + 1
        else:
            two = two + 1
            end = high
        if low > start:
            start = low
        if start < end:
            found.append((start, end))
    return tuple(found)


def moved_by(spans, by):
    """The spans, each moved by a number of units."""
    if by == 0:
        return tuple(spans)
    return tuple([(start + by, end + by) for start, end in spans])


def total(spans):
    """The number of instants in tidy spans."""
    return sum([end - start for start, end in spans])
