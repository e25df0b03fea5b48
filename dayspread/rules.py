"""Rules: which days a series has (points 3.1 to 3.3)."""

from dayspread.checks import are_ascending, is_within
from dayspread.errors import InvalidRule
from dayspread.patterns import is_before_end, month_track
from dayspread.places import is_at, is_place

LEAST_FIRST = 2
GREATEST_STEP = 30
MOST_PLACES = 4
LONGEST_SPAN = 2000
MOST_COUNTED = 60


def are_weekdays(calendar, weekdays):
    """True if the value is a row of weekdays for a pattern."""
    if not isinstance(weekdays, tuple) or not weekdays:
        return False
    return are_ascending(weekdays, 0, calendar.week - 1)


def are_places(calendar, places):
    """True if the value is a row of places for a pattern."""
    if not isinstance(places, tuple) or not 1 <= len(places) <= MOST_PLACES:
        return False
    if not all([isinstance(place, tuple) and is_place(calendar, place) for place in places]):
        return False
    return len(set(places)) == len(places)


def is_pattern(calendar, pattern):
    """True if the tuple is a pattern (point 3.1)."""
    if len(pattern) < 2 or not is_within(pattern[1], 1, GREATEST_STEP):
        return False
    word = pattern[0]
    if word == "days":
        return len(pattern) == 2
    if word == "weeks":
        return len(pattern) == 3 and are_weekdays(calendar, pattern[2])
    if word == "months":
        return len(pattern) == 3 and are_places(calendar, pattern[2])
    if word == "years" and len(pattern) == 4:
        return is_within(pattern[2], 1, len(calendar.months)) and are_places(calendar, pattern[3])
    return False


def is_end(first, end):
    """True if the tuple is the end of a rule with this first day (point 3.2)."""
    if end == ("never",):
        return True
    if len(end) != 2:
        return False
    if end[0] == "until":
        return is_within(end[1], first, first + LONGEST_SPAN)
    return end[0] == "count" and is_within(end[1], 1, MOST_COUNTED)


def check_rule(calendar, rule):
    """The rule, if it is one for this calendar."""
    if len(rule) != 3:
        raise InvalidRule("a rule has three parts")
    pattern, first, end = rule
    if not is_pattern(calendar, pattern):
        raise InvalidRule("the pattern is none of the calendar")
    if first < LEAST_FIRST:
        raise InvalidRule(f"the first day is below {LEAST_FIRST}")
    if not is_end(first, end):
        raise InvalidRule("the end is none of a rule with this first day")
    return rule


def fits(calendar, rule, day):
    """True if the day fits the pattern of the rule, whatever its first day and its end say."""
    pattern, first, _ = rule
    every = pattern[1]
    if pattern[0] == "days":
        return (day - first) % every == 0
    if pattern[0] == "weeks":
        weeks = day // calendar.week - first // calendar.week
        return weeks % every == 0 and calendar.weekday(day) in pattern[2]
    step, base = month_track(calendar, rule)
    if (calendar.month_index(day) - base) % step != 0:
        return False
    return any([is_at(calendar, place, day) for place in pattern[-1]])


def tells(calendar, rule, day):
    """True if the day is a day of the rule."""
    if day < rule[1] or not fits(calendar, rule, day):
        return False
    return is_before_end(calendar, rule, day)
