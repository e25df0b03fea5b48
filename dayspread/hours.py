"""The summer of a zone, and weekly hours (points 4.5 and 4.6)."""

from math import lcm

from dayspread.checks import is_within
from dayspread.errors import InvalidNeed
from dayspread.seasons import summers
from dayspread.segments import gaps, merged, moved_by
from dayspread.spans import Spans
from dayspread.wheels import cycle_from, turned

MOST_ROWS = 40


def summer(zone):
    """The summer of a zone (point 4.5)."""
    if zone.shift == 0:
        return Spans((), 0, 1, ())
    calendar = zone.calendar
    turns = calendar.repeat_days() // calendar.cycle_days()
    period = calendar.repeat_days() * calendar.day
    # Ahead of the first year it is summer all the time, or never.
    since = max(0, -zone.offset)
    head = ((0, since),) if since > 0 and zone.is_summer(0) else ()
    wheel = (-zone.offset, period, summers(zone, calendar.cycle * turns))
    return Spans(head, since, period, cycle_from(wheel, since))


def check_rows(calendar, rows):
    """Refuses rows that no weekly hours have."""
    if len(rows) > MOST_ROWS:
        raise InvalidNeed(f"there are more than {MOST_ROWS} rows")
    for row in rows:
        if len(row) != 3 or not is_within(row[0], 0, calendar.week - 1):
            raise InvalidNeed("a row has no weekday of the calendar")
        if not 0 <= row[1] < row[2] <= calendar.day:
            raise InvalidNeed("a row has no part of a day")


def open_times(winter, in_summer, season, start, stop):
    """The tidy spans from start to stop - 1 of what one wheel has in winter and the other one in summer."""
    summer_spans = season.parts(start, stop)
    found = []
    for low, high in gaps(summer_spans, start, stop):
        found.extend(turned(winter, low, high))
    for low, high in summer_spans:
        found.extend(turned(in_summer, low, high))
    return merged(found)


def weekly_hours(zone, rows):
    """The weekly hours of a zone (point 4.6)."""
    calendar = zone.calendar
    check_rows(calendar, rows)
    week = calendar.week * calendar.day
    local = merged([(row[0] * calendar.day + row[1], row[0] * calendar.day + row[2]) for row in rows])
    season = summer(zone)
    since = season.since
    stop = since + lcm(season.period, week)
    # By the clocks of winter and of summer, a week of local times begins at these instants.
    winter = (-zone.offset, week, local)
    in_summer = (-zone.offset - zone.shift, week, local)
    head = open_times(winter, in_summer, season, 0, since)
    cycle = open_times(winter, in_summer, season, since, stop)
    return Spans(head, since, stop - since, moved_by(cycle, -since))
