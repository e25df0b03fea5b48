"""The normal form of a span set (point 4.2)."""

from dayspread.segments import cut
from dayspread.wheels import cycle_from, is_full, last_difference


def shortest_turn(rows):
    """The least number of places by which a row that goes round can be turned and is the same again."""
    borders = [0]
    for place in range(1, len(rows)):
        known = borders[-1]
        while known > 0 and rows[known] != rows[place]:
            known = borders[known - 1]
        borders.append(known + 1 if rows[known] == rows[place] else 0)
    turn = len(rows) - borders[-1]
    return turn if len(rows) % turn == 0 else len(rows)


def runs(period, cycle):
    """The spans of a tidy cycle as they go round: one that goes on beyond the period is a single one."""
    if cycle[0][0] > 0 or cycle[-1][1] < period:
        return cycle
    return (*cycle[1:-1], (cycle[-1][0], period + cycle[0][1]))


def least_period(period, cycle):
    """The least period of a tidy cycle."""
    if not cycle or is_full((0, period, cycle)):
        return 1
    spans = runs(period, cycle)
    starts = [start for start, _ in spans]
    starts.append(starts[0] + period)
    steps = [(span[1] - span[0], after - span[0]) for span, after in zip(spans, starts[1:])]
    return starts[shortest_turn(steps)] - starts[0]


def normal(head, since, period, cycle):
    """The four values of the normal form; head and cycle are tidy."""
    least = least_period(period, cycle)
    wheel = (since, least, cut(cycle, 0, least))
    found = last_difference((0, since, head), wheel, 0, since)
    start = 0 if found is None else found + 1
    return cut(head, 0, start), start, least, cycle_from(wheel, start)
