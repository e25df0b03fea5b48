"""Calendars: years, months and days, each numbered one after another (points 1.1 to 1.4)."""

from math import lcm

from dayspread.checks import are_ascending, is_within
from dayspread.errors import InvalidCalendar, InvalidDay

MOST_MONTHS = 12
LONGEST_MONTH = 40
MOST_EXTRA = 10
LONGEST_CYCLE = 400
LONGEST_WEEK = 10
LONGEST_DAY = 1440


def check_number(name, value, low, high):
    """Refuses a value of a calendar that is not from low to high."""
    if not is_within(value, low, high):
        raise InvalidCalendar(f"{name} is not an integer from {low} to {high}")


def check_months(months):
    """Refuses a row of months that no calendar has."""
    check_number("the number of months", len(months), 1, MOST_MONTHS)
    for length in months:
        check_number("the length of a month", length, 1, LONGEST_MONTH)


def long_lengths(months, long_month, extra):
    """The lengths of the months in a long year."""
    return [length + extra if number == long_month else length for number, length in enumerate(months, start=1)]


def starts_in_cycle(months, longer, longs):
    """The first days of all months of the first cycle, and of the month behind it."""
    starts = [0]
    for is_long in longs:
        lengths = longer if is_long else months
        for length in lengths:
            starts.append(starts[-1] + length)
    return tuple(starts)


def last_not_above(starts, day):
    """The place of the last one of the ascending starts that is not above the day."""
    low = 0
    high = len(starts) - 1
    while low < high:
        middle = (low + high + 1) // 2
        if starts[middle] <= day:
            low = middle
        else:
            high = middle - 1
    return low


class Calendar:
    """A calendar (point 1.1)."""

    def __init__(self, months, *, long_month=1, extra=0, cycle=1, long_years=(), week=7, day=1440):
        check_months(months)
        check_number("long_month", long_month, 1, len(months))
        check_number("extra", extra, 0, MOST_EXTRA)
        check_number("cycle", cycle, 1, LONGEST_CYCLE)
        check_number("week", week, 1, LONGEST_WEEK)
        check_number("day", day, 1, LONGEST_DAY)
        if not are_ascending(long_years, 0, cycle - 1):
            raise InvalidCalendar("long_years are not different years of the cycle in ascending order")
        self.months = months
        self.long_month = long_month
        self.extra = extra
        self.cycle = cycle
        self.long_years = long_years
        self.week = week
        self.day = day
        long_table = {year: True for year in long_years}
        self._longs = tuple([year in long_table for year in range(cycle)])
        # All months of one cycle are kept, so that no question needs a count through years or months.
        self._starts = starts_in_cycle(months, long_lengths(months, long_month, extra), self._longs)

    def is_long(self, year):
        """True if the year is a long one."""
        return self._longs[year % self.cycle]

    def year_length(self, year):
        """The number of days of a year."""
        return self.year_start(year + 1) - self.year_start(year)

    def month_length(self, year, month):
        """The number of days of a month, which is counted from 1 in its year."""
        return self.length_at(year * len(self.months) + month - 1)

    def length_at(self, index):
        """The number of days of the month with this index."""
        place = index % self.cycle_months()
        return self._starts[place + 1] - self._starts[place]

    def year_start(self, year):
        """The first day of a year."""
        return self.month_start(year * len(self.months))

    def month_start(self, index):
        """The first day of the month with this index."""
        rounds, place = divmod(index, self.cycle_months())
        return rounds * self.cycle_days() + self._starts[place]

    def date_of(self, day):
        """The triple (year, month, day of the month)."""
        index = self.month_index(day)
        year, place = divmod(index, len(self.months))
        return year, place + 1, day - self.month_start(index) + 1

    def day_of(self, year, month, number):
        """The day of a date; refuses a date that there is not."""
        if year < 0 or not 1 <= month <= len(self.months):
            raise InvalidDay("there is no such month")
        if not 1 <= number <= self.month_length(year, month):
            raise InvalidDay("the month has no such day")
        return self.month_start(year * len(self.months) + month - 1) + number - 1

    def month_index(self, day):
        """The index of the month in which a day lies."""
        rounds, rest = divmod(day, self.cycle_days())
        return rounds * self.cycle_months() + last_not_above(self._starts, rest)

    def weekday(self, day):
        """The weekday of a day."""
        return day % self.week

    def cycle_months(self):
        """The number of months in a cycle."""
        return len(self._starts) - 1

    def cycle_days(self):
        """The number of days in a cycle."""
        return self._starts[-1]

    def repeat_days(self):
        """After this number of days months, lengths and weekdays come again."""
        return lcm(self.cycle_days(), self.week)
