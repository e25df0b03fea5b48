"""Rules that several tests use."""

from tests.samples import (ALL_LONG, LEAST, NEVER_LONG, NO_EXTRA, ONE_MONTH, ONE_MONTH_LONG_CYCLE, SMALL, TWELVE)

NEVER = ("never",)

# Places with which a month always, sometimes or never has its day, for each of the calendars.
PLACES = {
    SMALL: ((("day", 1),), (("day", 4), ("back", 4)), (("back", 1), ("weekday", 2, 3)), (("weekback", 2, 0),),
            (("day", 7),), (("day", 8),), (("weekday", 60, 0), ("weekback", 3, 1)),
            (("weekday", 1, 0), ("weekday", 1, 1), ("weekback", 1, 2), ("back", 7))),
    LEAST: ((("day", 1),), (("weekday", 1, 0),), (("back", 2),)),
    ONE_MONTH: ((("day", 15), ("day", 2)), (("weekday", 5, 2),), (("day", 16),), (("weekday", 6, 0),)),
    ONE_MONTH_LONG_CYCLE: ((("weekday", 1, 9),), (("day", 3),), (("weekback", 1, 4), ("back", 1)), (("day", 4),)),
    ALL_LONG: ((("day", 12),), (("weekday", 3, 2), ("day", 4)), (("weekback", 3, 0),), (("back", 13),)),
    NEVER_LONG: ((("weekday", 1, 3),), (("weekday", 2, 3),), (("day", 7), ("day", 1)), (("back", 9),)),
    NO_EXTRA: ((("weekday", 1, 3), ("back", 5)), (("weekback", 1, 6),), (("weekday", 2, 0),)),
    TWELVE: ((("day", 40),), (("day", 45), ("weekday", 5, 0)), (("weekback", 1, 8),), (("day", 46),)),
}
WEEKDAYS = {
    SMALL: ((0,), (3,), (0, 1, 2, 3), (1, 3)),
    LEAST: ((0,),),
    ONE_MONTH: ((0, 2), (1,)),
    ONE_MONTH_LONG_CYCLE: ((0, 4, 9), (7,)),
    ALL_LONG: ((2, 3),),
    NEVER_LONG: ((0, 6), (0, 1, 2, 3, 4, 5, 6)),
    NO_EXTRA: ((5,),),
    TWELVE: ((0, 8),),
}


def patterns(calendar, everys):
    """Patterns of all four kinds for one of the calendars above."""
    found = []
    for every in everys:
        found.append(("days", every))
        found += [("weeks", every, weekdays) for weekdays in WEEKDAYS[calendar]]
        found += [("months", every, places) for places in PLACES[calendar]]
        for month in {1, len(calendar.months), calendar.long_month}:
            found += [("years", every, month, places) for places in PLACES[calendar]]
    return found
