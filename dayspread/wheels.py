"""Wheels: sets of integers that come again and again, in both directions without an end.

A wheel is a triple (origin, period, cycle). It contains an integer t if one of the spans of the tidy row `cycle`,
which lie within 0 and `period`, contains the remainder of t - origin divided by the period. A row of spans within
0 and some bound can be asked as a wheel, too, as long as nothing beyond these two is asked.

No answer here is found by going through more spans than have to be told: neither instant by instant, nor turn by
turn through a wheel without a gap or without a span.
"""

from dayspread.segments import cut, first_behind, gaps, last_before, merged, moved_by, total

EMPTY = (0, 1, ())


def is_full(wheel):
    """True if the wheel contains all integers."""
    return wheel[2] == ((0, wheel[1]),)


def opposite(wheel):
    """The wheel of all integers that the wheel does not contain."""
    origin, period, cycle = wheel
    return origin, period, gaps(cycle, 0, period)


def turned(wheel, start, stop):
    """The tidy spans of what the wheel contains from start to stop - 1."""
    origin, period, cycle = wheel
    if start >= stop or not cycle:
        return ()
    if is_full(wheel):
        return ((start, stop),)
    base = start - (start - origin) % period
    last = stop - (stop - origin) % period
    if base == last:
        return moved_by(cut(cycle, start - base, stop - base), base)
    rows = list(moved_by(cut(cycle, start - base, period), base))
    rows.extend([(low + at, high + at) for at in range(base + period, last, period) for low, high in cycle])
    rows.extend(moved_by(cut(cycle, 0, stop - last), last))
    if cycle[0][0] == 0 and cycle[-1][1] == period:
        return merged(rows)
    return tuple(rows)


def cycle_from(wheel, start):
    """The cycle of the same wheel with this origin."""
    if start == wheel[0]:
        return wheel[2]
    return moved_by(turned(wheel, start, start + wheel[1]), -start)


def next_in(wheel, instant):
    """The first integer from the instant on that the wheel contains, or None if it contains none."""
    origin, period, cycle = wheel
    if not cycle:
        return None
    rest = (instant - origin) % period
    place = first_behind(cycle, rest)
    if place < len(cycle):
        return instant - rest + max(rest, cycle[place][0])
    return instant - rest + period + cycle[0][0]


def last_in(wheel, instant):
    """The last integer below the instant that the wheel contains, or None if it contains none."""
    origin, period, cycle = wheel
    if not cycle:
        return None
    rest = (instant - origin) % period
    found = last_before(cycle, rest)
    return instant - rest + (cycle[-1][1] - 1 - period if found is None else found)


def count_in(wheel, start, stop):
    """How many integers from start to stop - 1 the wheel contains."""
    turns, rest = divmod(stop - start, wheel[1])
    late = total(turned(wheel, stop - rest, stop))
    return late + turns * total(wheel[2]) if turns > 0 else late


def about(wheel, start, stop):
    """About how many spans it takes to tell what the wheel contains from start to stop - 1."""
    if is_full(wheel):
        return 1
    return len(wheel[2]) * (stop - start) // wheel[1] + 1


def last_unlike(first, second):
    """The last instant in one of two tidy rows alone; the rows are not alike."""
    for one, two in zip(first[::-1], second[::-1]):
        if one[1] != two[1]:
            return max(one[1], two[1]) - 1
        if one[0] != two[0]:
            return max(one[0], two[0]) - 1
    both = min(len(first), len(second))
    longer = first if len(first) > both else second
    return longer[len(longer) - both - 1][1] - 1


def first_unlike(first, second):
    """The first instant in one of two tidy rows alone; the rows are not alike."""
    for one, two in zip(first, second):
        if one[0] != two[0]:
            return min(one[0], two[0])
        if one[1] != two[1]:
            return min(one[1], two[1])
    both = min(len(first), len(second))
    longer = first if len(first) > both else second
    return longer[both][0]


def last_difference(first, second, start, stop):
    """The last integer from start to stop - 1 that one of two wheels contains alone, or None."""
    # Wheels that are alike for so long are alike everywhere (the theorem of Fine and Wilf).
    start = max(start, stop - first[1] - second[1])
    size = 1
    while start < stop:
        low = max(start, stop - size)
        one = turned(first, low, stop)
        two = turned(second, low, stop)
        if one != two:
            return last_unlike(one, two)
        stop = low
        size = size * 2
    return None


def first_difference(first, second, start, stop):
    """The first integer from start to stop - 1 that one of two wheels contains alone, or None."""
    stop = min(stop, start + first[1] + second[1])
    size = 1
    while start < stop:
        high = min(stop, start + size)
        one = turned(first, start, high)
        two = turned(second, start, high)
        if one != two:
            return first_unlike(one, two)
        start = high
        size = size * 2
    return None
