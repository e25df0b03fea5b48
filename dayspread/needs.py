"""Needs: what is asked of a time (point 7.1)."""

from dayspread.checks import is_within
from dayspread.errors import InvalidNeed
from dayspread.names import are_resources
from dayspread.spans import Spans

LONGEST_NEED = 10000
WIDEST = 10000


class Need:
    """A need (point 7.1)."""

    def __init__(self, resources, length, *, hours=None, before=0, after=0, start=0):
        if not are_resources(resources):
            raise InvalidNeed("the resources are not one to four different names")
        if not is_within(length, 1, LONGEST_NEED):
            raise InvalidNeed(f"the length is not from 1 to {LONGEST_NEED}")
        if not is_within(before, 0, WIDEST) or not is_within(after, 0, WIDEST):
            raise InvalidNeed(f"before or after is not from 0 to {WIDEST}")
        if start < 0:
            raise InvalidNeed("the start is no instant")
        self.resources = resources
        self.length = length
        self.hours = Spans((), 0, 1, ((0, 1),)) if hours is None else hours
        self.before = before
        self.after = after
        self.start = start


def is_possible(book, need, instant):
    """True if the instant is possible for the need."""
    if instant < need.start:
        return False
    stop = instant + need.length
    if need.hours.parts(instant, stop) != ((instant, stop),):
        return False
    start = max(instant - need.before, 0)
    return not any([book.agenda(resource, start, stop + need.after) for resource in need.resources])
