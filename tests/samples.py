"""Calendars that several tests use, with the edges of point 1.1 among them."""

from dayspread.almanac import Calendar

GREGORIAN_LONG = tuple(y for y in range(400) if y % 4 == 0 and (y % 100 != 0 or y == 0))
GREGORIAN = Calendar((31, 28, 31, 30, 31, 30, 31, 31, 30, 31, 30, 31),
                     long_month=2, extra=1, cycle=400, long_years=GREGORIAN_LONG)
LEAST = Calendar((1,), week=1, day=1)
ONE_MONTH = Calendar((5,), extra=10, cycle=1, long_years=(0,), week=3, day=4)
ONE_MONTH_LONG_CYCLE = Calendar((2,), extra=1, cycle=7, long_years=(0, 2, 3), week=10, day=24)
SMALL = Calendar((3, 5, 4), long_month=2, extra=2, cycle=5, long_years=(1, 4), week=4, day=6)
ALL_LONG = Calendar((4, 9), long_month=2, extra=3, cycle=3, long_years=(0, 1, 2), week=5, day=10)
NEVER_LONG = Calendar((6, 1, 8), long_month=3, extra=10, cycle=4, week=7, day=3)
NO_EXTRA = Calendar((7, 7), long_month=1, extra=0, cycle=2, long_years=(1,), week=7, day=2)
TWELVE = Calendar((1, 40, 2, 39, 3, 38, 4, 37, 5, 36, 6, 35), long_month=12, extra=10, cycle=9,
                  long_years=(0, 5, 8), week=9, day=1440)
RARE = Calendar((7, 7, 7), long_month=3, extra=4, cycle=400, long_years=(399,), week=10, day=5)

# Their whole cycles are short enough for a plain count.
SHORT = (LEAST, ONE_MONTH, ONE_MONTH_LONG_CYCLE, SMALL, ALL_LONG, NEVER_LONG, NO_EXTRA, TWELVE)
ALL = (*SHORT, RARE, GREGORIAN)
FAR = 10 ** 61 + 7
