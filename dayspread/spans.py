"""Span sets: sets of instants that repeat from some instant on (points 4.1 to 4.4)."""

from dayspread.errors import InvalidSpans
from dayspread.normal import normal
from dayspread.segments import contains, cut, first_behind, last_before, merged, moved_by, total
from dayspread.sharing import complement, first_alone, first_common, shared
from dayspread.wheels import count_in, last_in, next_in, turned


def check_spans(spans, bound):
    """Refuses pairs that are no spans or do not lie within 0 and the bound."""
    for span in spans:
        if len(span) != 2 or not 0 <= span[0] < span[1] <= bound:
            raise InvalidSpans(f"a pair is no span, or does not lie within 0 and {bound}")


def told(spans):
    """The four values that describe a span set."""
    return spans.head, spans.since, spans.period, spans.cycle


class Spans:
    """A span set, kept in its normal form."""

    def __init__(self, head, since, period, cycle):
        if since < 0:
            raise InvalidSpans("since is below 0")
        if period < 1:
            raise InvalidSpans("the period is below 1")
        check_spans(head, since)
        check_spans(cycle, period)
        head, since, period, cycle = normal(merged(head), since, period, merged(cycle))
        self.head = head
        self.since = since
        self.period = period
        self.cycle = cycle

    def __contains__(self, instant):
        if instant < self.since:
            return contains(self.head, instant)
        return contains(self.cycle, (instant - self.since) % self.period)

    def __eq__(self, other):
        return (isinstance(other, Spans) and self.since == other.since and self.period == other.period
                and self.head == other.head and self.cycle == other.cycle)

    def __and__(self, other):
        both = shared(told(self), told(other))
        return Spans(*both)

    def __or__(self, other):
        # What belongs to a set at least is all but what belongs to neither. (Told this way, no more spans are gone
        # through than the result has, as with what both have in common.)
        neither = shared(complement(told(self)), complement(told(other)))
        either = complement(neither)
        return Spans(*either)

    def __sub__(self, other):
        rest = shared(told(self), complement(told(other)))
        return Spans(*rest)

    def __invert__(self):
        others = complement(told(self))
        return Spans(*others)

    def wheel(self):
        """The wheel that is the set from `since` on."""
        return self.since, self.period, self.cycle

    def shifted(self, by):
        """The set shifted by a number of units; what falls below 0 is cut off."""
        since = max(self.since + by, 0)
        head = moved_by(cut(self.head, -by, self.since), by)
        cycle = moved_by(self.parts(since - by, since - by + self.period), by - since)
        return Spans(head, since, self.period, cycle)

    def widened(self, before, after):
        """All instants t for which the set contains an instant from t - after to t + before."""
        since = self.since + after
        stop = since + self.period
        wide = merged([(max(start - before, 0), end + after) for start, end in self.parts(0, stop + before)])
        return Spans(cut(wide, 0, since), since, self.period, moved_by(cut(wide, since, stop), -since))

    def room(self, length):
        """All instants t for which the set contains all instants from t to t + length - 1."""
        lacking = ~self
        return ~lacking.widened(length - 1, 0)

    def first(self):
        """The least instant of the set, or None."""
        return self.next_from(0)

    def next_from(self, instant):
        """The least instant of the set that is not below this one, or None."""
        place = first_behind(self.head, instant)
        if place < len(self.head):
            return max(instant, self.head[place][0])
        return next_in(self.wheel(), max(instant, self.since))

    def last_below(self, instant):
        """The greatest instant of the set that is below this one, or None."""
        if instant > self.since:
            found = last_in(self.wheel(), instant)
            if found is not None and found >= self.since:
                return found
        return last_before(self.head, instant)

    def is_empty(self):
        """True if no instant belongs to the set."""
        return not self.head and not self.cycle

    def differs(self, other):
        """The first instant that belongs to one of the two sets alone, or None."""
        return first_alone(told(self), told(other))

    def meets(self, other):
        """The first instant that belongs to both sets, or None."""
        return first_common(told(self), told(other))

    def measure(self, start, stop):
        """How many instants from start to stop - 1 belong to the set."""
        late = count_in(self.wheel(), max(start, self.since), max(stop, self.since))
        return total(cut(self.head, start, stop)) + late

    def parts(self, start, stop):
        """The tidy tuple of the spans of the instants from start to stop - 1 that belong to the set."""
        early = cut(self.head, start, stop)
        late = turned(self.wheel(), max(start, self.since), stop)
        return merged((*early, *late)) if early else late
