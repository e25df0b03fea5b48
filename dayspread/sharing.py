"""What two span sets have in common, told as the four values of point 4.1: (head, since, period, cycle).

Two sets may have very many spans up to the `since` of one of them, or within a common period, where what they have
in common is told by few. So only the set with fewer spans is gone through, wherever the two differ much.
"""

from math import lcm

from dayspread.segments import common, cut, gaps, merged, moved_by
from dayspread.wheels import (EMPTY, about, cycle_from, first_difference, last_difference, next_in, opposite, turned)

# Looking up one span in a row takes about as long as going through this many spans of it.
LOOKUP = 8


def wheel_at(told, instant):
    """The wheel that is the set from this instant on: up to its `since`, or for ever."""
    head, since, period, cycle = told
    return (0, since, head) if instant < since else (since, period, cycle)


def complement(told):
    """All instants that do not belong to the set."""
    head, since, period, cycle = told
    return gaps(head, 0, since), since, period, gaps(cycle, 0, period)


def regions(first, second, length):
    """The bounds of the regions in each of which both sets are a wheel; the last region has this length."""
    low = min(first[1], second[1])
    high = max(first[1], second[1])
    return ((0, low), (low, high), (high, high + length))


def by_size(first, second, start, stop):
    """The two wheels, the one with fewer spans from start to stop - 1 first, and whether it has far fewer."""
    one = about(first, start, stop)
    two = about(second, start, stop)
    if one <= two:
        return first, second, two > one * LOOKUP
    return second, first, one > two * LOOKUP


def shared_rows(first, second, start, stop):
    """The tidy spans of what both wheels contain from start to stop - 1."""
    few, many, is_far = by_size(first, second, start, stop)
    rows = turned(few, start, stop)
    if not is_far:
        return common(rows, turned(many, start, stop))
    found = []
    for low, high in rows:
        found.extend(turned(many, low, high))
    return tuple(found)


def first_within(first, second, start, stop):
    """The first integer from start to stop - 1 that both wheels contain, or None; for short ways."""
    few, many, is_far = by_size(first, second, start, stop)
    rows = turned(few, start, stop)
    if not is_far:
        both = common(rows, turned(many, start, stop))
        return both[0][0] if both else None
    for low, high in rows:
        found = next_in(many, low)
        if found is not None and found < high:
            return found
    return None


def first_shared(first, second, start, stop):
    """The first integer from start to stop - 1 that both wheels contain, or None."""
    size = 1
    while start < stop and first[2] and second[2]:
        high = min(stop, start + size)
        found = first_within(first, second, start, high)
        if found is not None:
            return found
        start = high
        size = size * 2
    return None


def shared_wheel(first, second, since):
    """A wheel with this origin of what both wheels contain."""
    period = lcm(first[1], second[1])
    few, many, is_far = by_size(first, second, since, since + period)
    # A wheel within another one is told by its own period, and not again and again through the common one.
    if is_far and first_shared(opposite(few), many, since, since + period) is None:
        return since, many[1], cycle_from(many, since)
    return since, period, moved_by(shared_rows(few, many, since, since + period), -since)


def least_since(spans, wheel, beyond, start, stop):
    """The least instant from start on from which up to stop the wheel within the tidy spans is the wheel beyond."""
    at = stop
    for low, high in spans[::-1]:
        for other, bottom in ((EMPTY, high), (wheel, low)):
            found = last_difference(other, beyond, bottom, at)
            if found is not None:
                return found + 1
            at = bottom
    found = last_difference(EMPTY, beyond, start, at)
    return start if found is None else found + 1


def shared(first, second):
    """What both sets have in common."""
    earlier, later = (first, second) if first[1] <= second[1] else (second, first)
    start = earlier[1]
    stop = later[1]
    wheel = wheel_at(earlier, start)
    beyond = shared_wheel(wheel, wheel_at(later, stop), stop)
    # From this instant on the set repeats already; what is told below it has to be told in its normal form, too.
    since = least_since(cut(later[0], start, stop), wheel, beyond, start, stop)
    head = list(common(earlier[0], cut(later[0], 0, start)))
    head.extend(shared_rows(wheel, wheel_at(later, start), start, since))
    return merged(head), since, beyond[1], cycle_from(beyond, since)


def first_common(first, second):
    """The first instant that belongs to both sets, or None."""
    for low, high in regions(first, second, lcm(first[2], second[2])):
        found = first_shared(wheel_at(first, low), wheel_at(second, low), low, high)
        if found is not None:
            return found
    return None


def first_alone(first, second):
    """The first instant that belongs to one of the two sets alone, or None."""
    for low, high in regions(first, second, first[2] + second[2]):
        found = first_difference(wheel_at(first, low), wheel_at(second, low), low, high)
        if found is not None:
            return found
    return None
