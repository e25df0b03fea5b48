"""Series: occurrences on the days of a rule (points 5.1 to 5.4)."""

from math import gcd, lcm

from dayspread.checks import are_ascending, is_within
from dayspread.errors import InvalidSeries
from dayspread.patterns import end_day, fits_between
from dayspread.rules import check_rule, fits
from dayspread.seasons import starts_of
from dayspread.segments import cut, merged, moved_by
from dayspread.spans import Spans
from dayspread.walk import last_day

LATEST_FIRST = 20000
LONGEST_LENGTH = 3
MOST_SPECIAL = 40
SPECIAL_DAYS = 2000
MOVED_DAYS = 4000

# An occurrence that is not moved starts at most this many days before its own day, and ends at most so many after
# the beginning of it: offset and shift are a day at most, and a length is three.
DAYS_AHEAD = 2
DAYS_BEHIND = 5
# From so many days after the last special day on, only other occurrences are left (point 5.4).
SETTLING = 8


def is_moved(zone, rule, start, length):
    """True if a moved occurrence may have this start and length."""
    day = zone.calendar.day
    return 0 <= start <= (rule[1] + MOVED_DAYS) * day and 1 <= length <= LONGEST_LENGTH * day


def repeat_days(zone, rule):
    """The repeat days of a rule (point 5.4)."""
    calendar = zone.calendar
    pattern = rule[0]
    every = pattern[1]
    if pattern[0] == "days" or pattern[0] == "weeks":
        step = every if pattern[0] == "days" else every * calendar.week
        return step if zone.shift == 0 else lcm(step, calendar.repeat_days())
    turn = calendar.cycle_months() if pattern[0] == "months" else calendar.cycle
    return lcm(calendar.week, calendar.cycle_days() * (every // gcd(every, turn)))


def first_double(spans):
    """The first instant that two of the ascending spans share, or None."""
    latest = 0
    for start, end in spans:
        if start < latest:
            return start
        latest = max(latest, end)
    return None


class Series:
    """A series (point 5.1)."""

    def __init__(self, zone, rule, unit, length, *, dropped=(), moved=()):
        calendar = zone.calendar
        check_rule(calendar, rule)
        if rule[1] > LATEST_FIRST:
            raise InvalidSeries(f"the first day is greater than {LATEST_FIRST}")
        if not is_within(unit, 0, calendar.day - 1):
            raise InvalidSeries("the unit is none of the day")
        if not is_within(length, 1, LONGEST_LENGTH * calendar.day):
            raise InvalidSeries("the length is below 1 or more than three days")
        self.zone = zone
        self.rule = rule
        self.unit = unit
        self.length = length
        self.dropped = dropped
        self.moved = moved
        self._end = end_day(calendar, rule)
        self._special = {}
        self._check_dropped()
        self._check_moved()
        # The whole series is looked through only if it is asked for, and then once.
        self._spans = None
        self._shared = None

    def _check_dropped(self):
        """Refuses dropped days that the series cannot have."""
        if len(self.dropped) > MOST_SPECIAL or not are_ascending(self.dropped, 0, self.rule[1] + SPECIAL_DAYS):
            raise InvalidSeries("the dropped days are not few and different days in ascending order")
        for day in self.dropped:
            self._check_day(day)
            self._special[day] = None

    def _check_moved(self):
        """Refuses moved days that the series cannot have."""
        if len(self.moved) > MOST_SPECIAL or not all([len(row) == 3 for row in self.moved]):
            raise InvalidSeries("the moved days are not few triples")
        if not are_ascending([row[0] for row in self.moved], 0, self.rule[1] + SPECIAL_DAYS):
            raise InvalidSeries("the moved days are not different days in ascending order")
        for day, start, length in self.moved:
            self._check_day(day)
            if day in self._special:
                raise InvalidSeries("a moved day is dropped")
            if not is_moved(self.zone, self.rule, start, length):
                raise InvalidSeries("a moved day has no start or length as it may have")
            self._special[day] = (start, start + length)

    def _check_day(self, day):
        """Refuses a day that is none of the rule."""
        if not self.tells(day):
            raise InvalidSeries("a dropped or moved day is no day of the rule")

    def copy(self):
        """Another series with the same values."""
        other = Series(self.zone, self.rule, self.unit, self.length, dropped=self.dropped, moved=self.moved)
        other._spans = self._spans
        other._shared = self._shared
        return other

    def tells(self, day):
        """True if the day is a day of the rule, be it dropped or not."""
        if day < self.rule[1] or not fits(self.zone.calendar, self.rule, day):
            return False
        return self._end is None or day <= self._end

    def days_of_rule(self, start, stop):
        """The ascending list of the days of the rule from start to stop - 1, dropped ones, too."""
        if self._end is not None:
            stop = min(stop, self._end + 1)
        start = max(start, self.rule[1])
        return fits_between(self.zone.calendar, self.rule, start, stop) if start < stop else []

    def occurrence(self, day):
        """The pair (start, end) of the occurrence of a day, or None if there is none."""
        if not self.tells(day):
            return None
        if day in self._special:
            return self._special[day]
        start = self.zone.instant(day * self.zone.calendar.day + self.unit)
        return start, start + self.length

    def covers(self, instant):
        """True if an occurrence contains the instant."""
        return len(self.occurrences(instant, instant + 1)) > 0

    def occurrences(self, start, stop):
        """The tuple of the triples (start, end, day) of all occurrences within the bounds, ascending."""
        if start >= stop:
            return ()
        length = self.length
        days = self._regular_days(start, stop)
        rows = [(low, low + length, day) for low, day in zip(starts_of(self.zone, days, self.unit), days)]
        rows.extend([(low, low + more, day) for day, low, more in self.moved])
        return tuple(sorted([row for row in rows if row[0] < stop and row[1] > start]))

    def _regular_days(self, start, stop):
        """Ascending days that are not moved, those of all such occurrences within the bounds among them."""
        day = self.zone.calendar.day
        days = self.days_of_rule(start // day - DAYS_BEHIND, stop // day + DAYS_AHEAD + 1)
        special = self._special
        return [number for number in days if number not in special] if special else days

    def settled(self):
        """The pair (s, p) of point 5.4."""
        day = self.zone.calendar.day
        moved_days = [row[0] for row in self.moved]
        ends = [row[1] + row[2] for row in self.moved]
        greatest = max([self.rule[1], *self.dropped, *moved_days])
        bounds = [(greatest + SETTLING) * day, *ends]
        last = last_day(self.zone.calendar, self.rule)
        if self.rule[2] == ("never",):
            return max(bounds), day * repeat_days(self.zone, self.rule)
        return max([(last + SETTLING) * day, *bounds]), 1

    def _look_through(self):
        """Finds what is asked of the series as a whole."""
        since, period = self.settled()
        stop = since + period
        length = self.length
        # What comes later comes again as it is here, with as many occurrences at each instant.
        rows = [(start, start + length) for start in starts_of(self.zone, self._regular_days(0, stop), self.unit)]
        rows.extend([(start, start + more) for _, start, more in self.moved])
        rows = sorted(rows)
        covered = merged(rows)
        self._shared = first_double(rows)
        self._spans = Spans(cut(covered, 0, since), since, period, moved_by(cut(covered, since, stop), -since))

    def spans(self):
        """The span set of all instants in occurrences."""
        if self._spans is None:
            self._look_through()
        return self._spans

    def self_clash(self):
        """The first instant that two occurrences share, or None."""
        if self._spans is None:
            self._look_through()
        return self._shared
