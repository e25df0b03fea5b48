"""Walks over the days of a rule (point 3.3)."""

from dayspread.patterns import end_day, fits_between, is_before_end, next_fit


def next_day(calendar, rule, day):
    """The least day of the rule that is not below the day, or None if there is none."""
    found = next_fit(calendar, rule, max(day, rule[1]))
    if found is None or not is_before_end(calendar, rule, found):
        return None
    return found


def days_between(calendar, rule, start, stop):
    """The tuple of the days of the rule from start to stop - 1."""
    last = end_day(calendar, rule)
    if last is not None:
        stop = min(stop, last + 1)
    return tuple(fits_between(calendar, rule, max(start, rule[1]), stop))


def last_day(calendar, rule):
    """0 if the rule has no days; otherwise None if it never ends, and its last day if it does."""
    first = next_day(calendar, rule, rule[1])
    if first is None:
        return 0
    if rule[2][0] == "until":
        return last_until(calendar, rule, first, rule[2][1])
    return end_day(calendar, rule)


def last_until(calendar, rule, low, high):
    """The last day of the rule that is not above high; low is some day of the rule that is not above it."""
    while low < high:
        middle = (low + high + 1) // 2
        found = next_fit(calendar, rule, middle)
        # The pattern fits again and again, since it fits at low: a next fit is always found.
        if found > high:
            high = middle - 1
        else:
            low = found
    return low
