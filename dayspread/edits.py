"""Changes of a series: each makes new series and leaves the old one as it is (points 5.2 and 5.5)."""

from dayspread.errors import InvalidDay
from dayspread.series import LATEST_FIRST, SPECIAL_DAYS, Series
from dayspread.walk import next_day


def remade(series, dropped, moved):
    """The series with other dropped and moved days."""
    return Series(series.zone, series.rule, series.unit, series.length, dropped=dropped, moved=moved)


def check_occurrence(series, day):
    """Refuses a day for which the series has no occurrence."""
    if series.occurrence(day) is None:
        raise InvalidDay("the series has no occurrence for the day")


def moved_besides(series, day):
    """The moved days of the series without this one."""
    return [row for row in series.moved if row[0] != day]


def without_day(series, day):
    """The series with this day dropped."""
    check_occurrence(series, day)
    return remade(series, tuple(sorted([*series.dropped, day])), tuple(moved_besides(series, day)))


def with_moved(series, day, start, length):
    """The series with this day moved, or moved anew."""
    check_occurrence(series, day)
    rows = moved_besides(series, day)
    return remade(series, series.dropped, tuple(sorted([*rows, (day, start, length)])))


def can_split_at(series, day):
    """True if the series can be split at the day (point 5.5)."""
    first = series.rule[1]
    if day > min(first + SPECIAL_DAYS + 1, LATEST_FIRST) or not series.tells(day):
        return False
    return next_day(series.zone.calendar, series.rule, first) != day


def rest_of_end(series, day):
    """The end of the rule of the part that begins with the day."""
    end = series.rule[2]
    if end[0] != "count":
        return end
    return "count", end[1] - len(series.days_of_rule(series.rule[1], day))


def part(series, rule, start, stop):
    """The part of the series with this rule, whose days lie from start to stop - 1; without a stop if it is None."""
    dropped = [day for day in series.dropped if start <= day and (stop is None or day < stop)]
    moved = [row for row in series.moved if start <= row[0] and (stop is None or row[0] < stop)]
    return Series(series.zone, rule, series.unit, series.length, dropped=tuple(dropped), moved=tuple(moved))


def split_at(series, day):
    """The pair of the parts before the day and from the day on (point 5.5)."""
    if not can_split_at(series, day):
        raise InvalidDay("the series cannot be split at the day")
    pattern, first, _ = series.rule
    early = part(series, (pattern, first, ("until", day - 1)), first, day)
    late = part(series, (pattern, day, rest_of_end(series, day)), day, None)
    return early, late
