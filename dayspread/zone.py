"""Zones: local clocks, with or without summer time (points 2.1 to 2.3)."""

from dayspread.errors import InvalidZone
from dayspread.places import COUNTED_BY_DAYS, is_place, place_day


def has_day_each_year(calendar, month, place):
    """True if the place has a day in the month of this number in every year."""
    # A month is never shorter than in a common year.
    length = calendar.months[month - 1]
    if place[0] in COUNTED_BY_DAYS:
        return place[1] <= length
    return place[1] * calendar.week <= length


def is_moment(calendar, moment):
    """True if the triple is a yearly moment of the calendar."""
    month, place, unit = moment
    if not 1 <= month <= len(calendar.months) or not 0 <= unit < calendar.day:
        return False
    return is_place(calendar, place) and has_day_each_year(calendar, month, place)


def check_summer(calendar, shift, on, off):
    """Refuses a summer time that no zone of the calendar has."""
    if shift == 0:
        if on is not None or off is not None:
            raise InvalidZone("without a shift there are no yearly moments")
        return
    if not 1 <= shift <= calendar.day:
        raise InvalidZone("the shift is longer than a day or below 0")
    if on is None or off is None:
        raise InvalidZone("a shift needs two yearly moments")
    if not is_moment(calendar, on) or not is_moment(calendar, off):
        raise InvalidZone("a yearly moment is none of the calendar")
    if on[0] == off[0]:
        raise InvalidZone("the months of the yearly moments are the same")


def switch_time(calendar, year, moment):
    """The standard time of a yearly moment in a year."""
    month, place, unit = moment
    index = year * len(calendar.months) + month - 1
    return place_day(calendar, index, place) * calendar.day + unit


class Zone:
    """A zone (point 2.1)."""

    def __init__(self, calendar, offset, *, shift=0, on=None, off=None):
        if not -calendar.day <= offset <= calendar.day:
            raise InvalidZone("the offset is longer than a day")
        check_summer(calendar, shift, on, off)
        self.calendar = calendar
        self.offset = offset
        self.shift = shift
        self.on = on
        self.off = off

    def is_summer(self, instant):
        """True if it is summer at the instant."""
        return self.shift > 0 and self.is_summer_at(instant + self.offset)

    def local(self, instant):
        """The local time of an instant."""
        standard = instant + self.offset
        return standard + self.shift if self.is_summer(instant) else standard

    def instant(self, local):
        """The first instant at which the local time is this one or a greater one (point 2.3)."""
        # The local time is ahead of the standard time by the shift at most. So the instant does not come
        # before the standard time `earliest`, comes at once in summer, and comes in winter at the latest
        # when the standard time itself is `local`.
        earliest = local - self.shift
        if self.shift == 0 or self.is_summer_at(earliest):
            return earliest - self.offset
        return min(self.next_on(earliest), local) - self.offset

    def year_at(self, standard):
        """The year to which a standard time belongs."""
        return self.calendar.date_of(standard // self.calendar.day)[0]

    def is_summer_at(self, standard):
        """True if it is summer at a standard time, in a zone with summer time (point 2.2)."""
        if standard < 0:
            return self.off[0] < self.on[0]
        year = self.year_at(standard)
        start = switch_time(self.calendar, year, self.on)
        stop = switch_time(self.calendar, year, self.off)
        if start < stop:
            return start <= standard < stop
        return standard < stop or standard >= start

    def next_on(self, standard):
        """The standard time at which summer time is switched on next, after one that is not in summer."""
        year = self.year_at(standard)
        start = switch_time(self.calendar, year, self.on)
        if start > standard:
            return start
        return switch_time(self.calendar, year + 1, self.on)
