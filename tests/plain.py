"""Plain counts that the tests hold the program against: day by day, straight from the words of the document.

They read the values that a calendar, a zone or a rule was given, and call nothing of the program.
"""

from math import gcd, lcm


class Table:
    """The days of the first years of a calendar, one by one."""

    def __init__(self, calendar, years):
        self.calendar = calendar
        self.dates = []
        self.months = []
        self.years = years
        self.kept_times = {}
        for year in range(years):
            for month in range(1, len(calendar.months) + 1):
                length = plain_length(calendar, year, month)
                start = len(self.dates)
                self.months.append(list(range(start, start + length)))
                self.dates.extend((year, month, number) for number in range(1, length + 1))

    def index(self, day):
        year, month, _ = self.dates[day]
        return year * len(self.calendar.months) + month - 1

    def place_day(self, index, place):
        days = self.months[index]
        word, number = place[0], place[1]
        if word.startswith("week"):
            days = [day for day in days if day % self.calendar.week == place[2]]
        if word in ("back", "weekback"):
            days = days[::-1]
        return days[number - 1] if number <= len(days) else None

    def fits(self, rule, day):
        pattern, first, _ = rule
        word, every = pattern[0], pattern[1]
        if word == "days":
            return (day - first) % every == 0
        if word == "weeks":
            week = self.calendar.week
            return day % week in pattern[2] and (day // week - first // week) % every == 0
        if word == "months":
            apart = self.index(day) - self.index(first)
        else:
            if self.dates[day][1] != pattern[2]:
                return False
            apart = self.dates[day][0] - self.dates[first][0]
        return apart % every == 0 and day in [self.place_day(self.index(day), place) for place in pattern[-1]]

    def rule_days(self, rule):
        """All days of the rule within the table."""
        return ended(self.fit_days(rule), rule[2])

    def fit_days(self, rule):
        """All days of the table from the first one of the rule on that fit, whatever the end is."""
        return [day for day in range(rule[1], len(self.dates)) if self.fits(rule, day)]

    def switch(self, year, moment):
        """The standard time of a yearly moment in a year of the table."""
        month, place, unit = moment
        index = year * len(self.calendar.months) + month - 1
        return self.place_day(index, place) * self.calendar.day + unit

    def is_summer(self, zone, instant):
        if zone.shift == 0:
            return False
        s = instant + zone.offset
        if s < 0:
            return zone.off[0] < zone.on[0]
        year = self.dates[s // self.calendar.day][0]
        a = self.switch(year, zone.on)
        b = self.switch(year, zone.off)
        if a < b:
            return a <= s < b
        return s < b or s >= a

    def local(self, zone, instant):
        return instant + zone.offset + (zone.shift if self.is_summer(zone, instant) else 0)

    def local_times(self, zone):
        """The local times of all instants whose standard time surely lies within the table."""
        if zone not in self.kept_times:
            many = (len(self.dates) - 1) * self.calendar.day
            self.kept_times[zone] = [self.local(zone, instant) for instant in range(many)]
        return self.kept_times[zone]


def ended(days, end):
    """The days of a rule with this end, of all that fit."""
    if end[0] == "until":
        return [day for day in days if day <= end[1]]
    return days[:end[1]] if end[0] == "count" else days


def plain_length(calendar, year, month):
    length = calendar.months[month - 1]
    if month == calendar.long_month and year % calendar.cycle in calendar.long_years:
        length += calendar.extra
    return length


def all_places(calendar, greatest=60):
    """Every place of a calendar up to a greatest n."""
    places = []
    for number in range(1, greatest + 1):
        places += [("day", number), ("back", number)]
        for weekday in range(calendar.week):
            places += [("weekday", number, weekday), ("weekback", number, weekday)]
    return places


def belongs(told, instant):
    """True if the instant belongs to the set that the four values of point 4.1 describe."""
    head, since, period, cycle = told
    if instant < since:
        return any(start <= instant < end for start, end in head)
    return any(start <= (instant - since) % period < end for start, end in cycle)


def tidy(instants):
    """The tidy tuple of the spans of some instants."""
    found = []
    for instant in sorted(set(instants)):
        if found and found[-1][1] == instant:
            found[-1] = (found[-1][0], instant + 1)
        else:
            found.append((instant, instant + 1))
    return tuple(found)


def normal_form(test, since, period):
    """The four values of point 4.2, of a set of which it is known that it repeats so; found by the definition."""
    # A set that repeats with p from some instant on does so from `since` on, and p divides every other period.
    least = next(p for p in range(1, period + 1)
                 if all(test(t) == test(t + p) for t in range(since, since + period)))
    while since > 0 and test(since - 1) == test(since - 1 + least):
        since -= 1
    return (tidy(t for t in range(since) if test(t)), since, least,
            tidy(t for t in range(least) if test(since + t)))


def values(spans):
    """The four values of a span set."""
    return spans.head, spans.since, spans.period, spans.cycle


def plain_starts(table, zone, times):
    """The first instants at which it is as late by the local clock, for ascending local times within the table."""
    local_times = table.local_times(zone)
    found = []
    at = 0
    for time in times:
        while at < len(local_times) and local_times[at] < time:
            at += 1
        if at == len(local_times):
            break
        found.append(at)
    return found


def plain_occurrences(table, zone, rule, unit, length, dropped=(), moved=()):
    """The ascending triples (start, end, day) of the occurrences of a series, as far as the table reaches."""
    special = {day: (start, start + more, day) for day, start, more in moved}
    days = [day for day in table.rule_days(rule) if day not in dropped]
    starts = plain_starts(table, zone, [day * zone.calendar.day + unit for day in days])
    return sorted(special.get(day, (start, start + length, day)) for day, start in zip(days, starts))


def plain_repeat_days(zone, rule):
    """The repeat days of a rule, by the words of point 5.4."""
    calendar, (pattern, _, _) = zone.calendar, rule
    months = len(calendar.months)
    cycle_days = sum(plain_length(calendar, year, month) for year in range(calendar.cycle)
                     for month in range(1, months + 1))
    repeat = lcm(cycle_days, calendar.week)
    every = pattern[1]
    if pattern[0] == "days":
        return every if zone.shift == 0 else lcm(every, repeat)
    if pattern[0] == "weeks":
        return every * calendar.week if zone.shift == 0 else lcm(every * calendar.week, repeat)
    g = gcd(every, months * calendar.cycle if pattern[0] == "months" else calendar.cycle)
    return lcm(calendar.week, cycle_days * (every // g))


def plain_settled(table, zone, rule, dropped, moved):
    """The pair (s, p) by the words of point 5.4; an ended rule has its last day within the table."""
    day = zone.calendar.day
    m = max([rule[1], *dropped, *(row[0] for row in moved)])
    s = max([(m + 8) * day, *(row[1] + row[2] for row in moved)])
    if rule[2] == ("never",):
        return s, day * plain_repeat_days(zone, rule)
    days = table.rule_days(rule)
    return max(s, ((days[-1] if days else 0) + 8) * day), 1
