"""Zones that several tests use."""

from dayspread.zone import Zone
from tests.samples import ALL_LONG, GREGORIAN, SMALL

FIRST = (1, ("day", 1), 0)
LAST = (3, ("back", 1), 5)
SPRING = (1, ("back", 2), 3)
MIDDLE = (2, ("weekback", 1, 2), 4)
AUTUMN = (3, ("weekday", 1, 1), 2)
# One unit of summer or of winter, moments at the ends of a year, and ordinary ones; each pair is used both ways.
PAIRS = ((FIRST, LAST), (SPRING, AUTUMN), (SPRING, MIDDLE), (MIDDLE, AUTUMN),
         ((1, ("back", 1), 5), (2, ("day", 1), 0)), ((2, ("back", 5), 0), (3, ("day", 4), 5)))


def small_zones():
    """Zones of the small calendar with all kinds of summer times, offsets and shifts."""
    zones = [Zone(SMALL, offset) for offset in (-6, -1, 0, 1, 6)]
    for first, second in PAIRS:
        for on, off in ((first, second), (second, first)):
            for offset in (-6, -5, 0, 2, 6):
                for shift in (1, 4, 6):
                    zones.append(Zone(SMALL, offset, shift=shift, on=on, off=off))
    return zones


def other_zones():
    """Zones of a calendar whose weekdays come again after several cycles only."""
    early, late = (1, ("day", 4), 0), (2, ("weekback", 1, 3), 9)
    return [Zone(ALL_LONG, offset, shift=shift, on=on, off=off) for on, off in ((early, late), (late, early))
            for offset, shift in ((-10, 10), (3, 2), (10, 1))]


CLOCK = Zone(GREGORIAN, 60, shift=60, on=(3, ("weekback", 1, 0), 120), off=(10, ("weekback", 1, 0), 120))
SOUTH = Zone(GREGORIAN, -300, shift=30, on=(10, ("weekday", 1, 0), 120), off=(4, ("weekday", 1, 0), 150))
