"""Series of the small calendar that several tests use, beside their plain occurrences."""

import random

from dayspread.series import Series
from dayspread.zone import Zone
from tests.plain import Table, plain_occurrences, plain_settled
from tests.rule_samples import NEVER, patterns
from tests.samples import SMALL
from tests.zone_samples import AUTUMN, MIDDLE, SPRING

ZONES = (Zone(SMALL, 0), Zone(SMALL, -6), Zone(SMALL, 6), Zone(SMALL, 1),
         Zone(SMALL, 0, shift=1, on=SPRING, off=AUTUMN), Zone(SMALL, -6, shift=6, on=AUTUMN, off=SPRING),
         Zone(SMALL, 6, shift=6, on=MIDDLE, off=AUTUMN), Zone(SMALL, 2, shift=4, on=SPRING, off=MIDDLE))
# The table reaches two periods beyond the instant from which on the samples are settled.
TABLE = Table(SMALL, 60)


class Sample:
    """A series, what it was made of, and its plain occurrences."""

    def __init__(self, zone, rule, unit, length, dropped=(), moved=()):
        self.zone, self.rule, self.unit, self.length = zone, rule, unit, length
        self.dropped, self.moved = dropped, moved
        self.rows = plain_occurrences(TABLE, zone, rule, unit, length, dropped, moved)
        self.counts = {}
        for start, end, _ in self.rows:
            for instant in range(start, end):
                self.counts[instant] = self.counts.get(instant, 0) + 1

    def series(self):
        return Series(self.zone, self.rule, self.unit, self.length, dropped=self.dropped, moved=self.moved)

    def settled(self):
        return plain_settled(TABLE, self.zone, self.rule, self.dropped, self.moved)

    def within(self, start, stop):
        """The plain occurrences that contain an instant from start to stop - 1."""
        return tuple(row for row in self.rows if any(row[0] <= t < row[1] for t in range(start, stop)))

    def __repr__(self):
        return repr((self.zone.offset, self.zone.shift, self.zone.on, self.zone.off, self.rule, self.unit, self.length,
                     self.dropped, self.moved))


def some_days(source, days, many):
    return tuple(sorted(source.sample(days, min(len(days), many))))


def samples(seed, many, longest=18):
    """Series of all kinds of patterns, ends and zones, most with some dropped and moved days."""
    source = random.Random(seed)
    choices = patterns(SMALL, (1, 2, 3))
    found = []
    for number in range(many):
        zone = ZONES[number % len(ZONES)]
        first = source.randint(2, 30)
        end = source.choice((NEVER, NEVER, ("until", first + source.randint(0, 60)), ("count", source.randint(1, 5))))
        word = source.choice(("days", "weeks", "months", "years"))
        rule = (source.choice([pattern for pattern in choices if pattern[0] == word]), first, end)
        days = [day for day in TABLE.rule_days(rule) if day <= 90]
        special = some_days(source, days, source.choice((0, 0, 1, 4)))
        dropped = some_days(source, special, len(special) // 2)
        moved = tuple((day, source.choice((0, source.randrange(600), day * 6)), source.randint(1, longest))
                      for day in special if day not in dropped)
        length = source.choice((1, source.randint(1, 6), longest, longest))
        found.append(Sample(zone, rule, source.randrange(6), length, dropped, moved))
    return found
