"""The days that fit the pattern of a rule (point 3.1), found without trying day by day.

Here a rule is always valid, and a fit is a day from 0 on that fits the pattern, whatever first day and end say.
"""

from math import gcd

from dayspread.places import COUNTED_BY_DAYS, place_day


def month_track(calendar, rule):
    """The pair (step, base): only months whose index differs from base by a multiple of step can have fits."""
    pattern, first, _ = rule
    if pattern[0] == "months":
        return pattern[1], calendar.month_index(first)
    months = len(calendar.months)
    return pattern[1] * months, calendar.date_of(first)[0] * months + pattern[2] - 1


def days_in_month(calendar, index, places):
    """The ascending list of the days that the places have in the month with this index."""
    days = [place_day(calendar, index, place) for place in places]
    return sorted({day for day in days if day is not None})


def least_length(calendar, place):
    """The length that a month has at least, if the place has a day in it."""
    if place[0] in COUNTED_BY_DAYS:
        return place[1]
    return (place[1] - 1) * calendar.week + 1


def next_by_days(rule, day):
    """The first fit from the day on, for a pattern of days."""
    pattern, first, _ = rule
    return day + (first - day) % pattern[1]


def first_week(calendar, rule, day):
    """The number of the first week from that of the day on that can have fits, for a pattern of weeks."""
    pattern, first, _ = rule
    number = day // calendar.week
    return number + (first // calendar.week - number) % pattern[1]


def next_by_weeks(calendar, rule, day):
    """The first fit from the day on, for a pattern of weeks."""
    every = rule[0][1]
    weekdays = rule[0][2]
    start = first_week(calendar, rule, day) * calendar.week
    days = [start + weekday for weekday in weekdays if start + weekday >= day]
    return days[0] if days else start + every * calendar.week + weekdays[0]


def first_month(calendar, rule, day):
    """The index of the first month from that of the day on that can have fits."""
    step, base = month_track(calendar, rule)
    index = calendar.month_index(day)
    return index + (base - index) % step


def next_by_months(calendar, rule, day):
    """The first fit from the day on, or None if there is none, for a pattern of months or years."""
    places = rule[0][-1]
    least = min([least_length(calendar, place) for place in places])
    step = month_track(calendar, rule)[0]
    start = first_month(calendar, rule, day)
    # After one turn the lengths of the months come again, and after so many turns their weekdays, too.
    turn = step // gcd(step, calendar.cycle_months()) * calendar.cycle_months()
    turn_days = turn // calendar.cycle_months() * calendar.cycle_days()
    turns = calendar.week // gcd(calendar.week, turn_days)
    long_enough = []
    for index in range(start, start + turn, step):
        if calendar.length_at(index) >= least:
            days = [found for found in days_in_month(calendar, index, places) if found >= day]
            if days:
                return days[0]
            long_enough.append(index)
    # The last of these rounds is like the first one, and has what lies below the day in its first month, too.
    for number in range(1, turns + 1):
        for index in long_enough:
            days = days_in_month(calendar, index + number * turn, places)
            if days:
                return days[0]
    return None


def next_fit(calendar, rule, day):
    """The first fit from the day on, or None if there is none."""
    word = rule[0][0]
    if word == "days":
        return next_by_days(rule, day)
    if word == "weeks":
        return next_by_weeks(calendar, rule, day)
    return next_by_months(calendar, rule, day)


def nth_fit(calendar, rule, number):
    """The fit with this number, counted from 1 and from the first day of the rule on, or None if there is none."""
    day = next_fit(calendar, rule, rule[1])
    for _ in range(number - 1):
        # A pattern comes again and again, so there is a next fit wherever there is one.
        if day is not None:
            day = next_fit(calendar, rule, day + 1)
    return day


def weeks_between(calendar, rule, start, stop):
    """The fits from start to stop - 1, for a pattern of weeks."""
    week = calendar.week
    numbers = range(first_week(calendar, rule, start), stop // week + 1, rule[0][1])
    days = [number * week + weekday for number in numbers for weekday in rule[0][2]]
    return [day for day in days if start <= day < stop]


def months_between(calendar, rule, start, stop):
    """The fits from start to stop - 1, for a pattern of months or years."""
    places = rule[0][-1]
    step = month_track(calendar, rule)[0]
    indexes = range(first_month(calendar, rule, start), calendar.month_index(stop) + 1, step)
    days = [day for index in indexes for day in days_in_month(calendar, index, places)]
    return [day for day in days if start <= day < stop]


def fits_between(calendar, rule, start, stop):
    """The ascending list of the fits from start to stop - 1."""
    word = rule[0][0]
    if word == "days":
        return list(range(next_by_days(rule, start), stop, rule[0][1]))
    if word == "weeks":
        return weeks_between(calendar, rule, start, stop)
    return months_between(calendar, rule, start, stop)


def end_day(calendar, rule):
    """The last day that the end of the rule lets be a day of it; None if it lets all of them, or none fits."""
    end = rule[2]
    if end[0] == "never":
        return None
    if end[0] == "until":
        return end[1]
    return nth_fit(calendar, rule, end[1])


def is_before_end(calendar, rule, day):
    """True if the end of the rule lets a fit be a day of it."""
    last = end_day(calendar, rule)
    return last is None or day <= last
