"""Descriptions of span sets (the four values of point 4.1) that several tests use."""

import random

NOTHING = ((), 0, 1, ())
ALL = ((), 0, 1, ((0, 1),))
EVENS = ((), 0, 2, ((0, 1),))

# Sets that are described in other than their normal form, with the edges of point 4.2 among them.
ODD_ONES = (
    NOTHING, ALL, EVENS,
    ((), 0, 12, ()), ((), 7, 5, ()), ((), 0, 12, ((0, 12),)), (((0, 7),), 7, 5, ((0, 5),)),
    (((0, 3), (3, 7)), 7, 5, ((2, 5), (0, 2))), ((), 7, 1, ((0, 1),)), (((5, 10),), 10, 1, ()),
    (((5, 10),), 30, 6, ()), ((), 6, 2, ((0, 1),)), ((), 6, 12, ((0, 1), (2, 3), (4, 5), (6, 7), (8, 9), (10, 11))),
    (((0, 1), (2, 3), (4, 5)), 6, 2, ((0, 1),)), (((1, 2), (3, 4), (5, 6)), 6, 2, ((0, 1),)),
    (((0, 1), (3, 4)), 4, 4, ((1, 2), (3, 4))), ((), 3, 6, ((5, 6), (0, 1))), (((0, 2),), 2, 6, ((0, 1), (3, 4))),
    (((0, 2), (5, 6)), 7, 10, ((0, 2), (4, 7), (9, 10))), (((0, 9),), 9, 9, ((0, 8),)), (((8, 9),), 9, 9, ((8, 9),)),
)


def spans_within(source, bound):
    """Up to four spans within 0 and a bound, in any order."""
    spans = []
    for _ in range(source.randint(0, 4) if bound else 0):
        start = source.randrange(bound)
        spans.append((start, min(bound, start + source.choice((1, 1, 2, 3, bound)))))
    return spans


def some_sets(seed, many):
    """Descriptions with small numbers."""
    source = random.Random(seed)
    found = []
    for _ in range(many):
        since, period = source.randint(0, 9), source.choice((1, 2, 3, 4, 5, 6, 8, 10, 12))
        found.append((tuple(spans_within(source, since)), since, period, tuple(spans_within(source, period))))
    return found
