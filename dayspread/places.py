"""Places: days that are named within a month (point 1.5)."""

from dayspread.checks import is_within

GREATEST_NUMBER = 60
COUNTED_BY_DAYS = ("day", "back")
COUNTED_BY_WEEKS = ("weekday", "weekback")


def is_place(calendar, place):
    """True if the tuple is a place."""
    if len(place) == 2:
        return place[0] in COUNTED_BY_DAYS and is_within(place[1], 1, GREATEST_NUMBER)
    if len(place) == 3:
        numbers_fit = is_within(place[1], 1, GREATEST_NUMBER) and is_within(place[2], 0, calendar.week - 1)
        return place[0] in COUNTED_BY_WEEKS and numbers_fit
    return False


def counted_day(week, start, stop, place):
    """The day to which a place counts in the month from start to stop - 1; it may lie beyond the month."""
    word = place[0]
    number = place[1]
    if word == "day":
        return start + number - 1
    if word == "back":
        return stop - number
    if word == "weekday":
        return start + (place[2] - start) % week + (number - 1) * week
    last = stop - 1
    return last - (last - place[2]) % week - (number - 1) * week


def place_day(calendar, index, place):
    """The day of a place in the month with this index, or None if it has none."""
    start = calendar.month_start(index)
    stop = start + calendar.length_at(index)
    day = counted_day(calendar.week, start, stop, place)
    return day if start <= day < stop else None


def is_at(calendar, place, day):
    """True if the day is the day of the place in its month."""
    return place_day(calendar, calendar.month_index(day), place) == day
