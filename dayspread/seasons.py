"""The times at which summer time is switched, and the instants of many local times at once (points 2.2, 2.3)."""

from dayspread.segments import merged
from dayspread.zone import switch_time


def switches(zone, year):
    """The two pairs (standard time, True if summer time is switched on then) of a year, the earlier one first."""
    start = switch_time(zone.calendar, year, zone.on)
    stop = switch_time(zone.calendar, year, zone.off)
    if start < stop:
        return (start, True), (stop, False)
    return (stop, False), (start, True)


def summers(zone, years):
    """The tidy spans of the standard times of the first years at which it is summer."""
    found = []
    for year in range(years):
        early, late = switches(zone, year)
        if early[1]:
            found.append((early[0], late[0]))
        else:
            found.append((zone.calendar.year_start(year) * zone.calendar.day, early[0]))
            found.append((late[0], zone.calendar.year_start(year + 1) * zone.calendar.day))
    return merged([(start, stop) for start, stop in found if start < stop])


def number_below(times, bound):
    """How many of the ascending times are below the bound."""
    low = 0
    high = len(times)
    while low < high:
        middle = (low + high) // 2
        if times[middle] < bound:
            low = middle + 1
        else:
            high = middle
    return low


def standard_starts(zone, times, events):
    """The first standard times at which it is as late by the local clock, for ascending local times.

    The events are the switches from before the first of the times until behind the last one.
    """
    shift = zone.shift
    found = []
    for at, is_on in events:
        place = len(found)
        if is_on:
            # In winter a local time is the standard time; one that is skipped comes when the clock is switched.
            regular = max(place, number_below(times, at))
            found.extend(times[place:regular])
            skipped = number_below(times, at + shift) - regular
            found.extend([at] * skipped)
        else:
            found.extend([time - shift for time in times[place:number_below(times, at + shift)]])
    return found


def starts_of(zone, days, unit):
    """The list of the instants of this local unit on each of the ascending days (as zone.instant tells them)."""
    calendar = zone.calendar
    times = [day * calendar.day + unit for day in days]
    if zone.shift > 0 and days:
        # A local time is ahead of the standard time by a day at most, so one year more on both sides is enough.
        first = max(calendar.date_of(days[0])[0] - 1, 0)
        last = calendar.date_of(days[-1])[0] + 1
        events = [event for year in range(first, last + 1) for event in switches(zone, year)]
        times = standard_starts(zone, times, events)
    return [time - zone.offset for time in times]
