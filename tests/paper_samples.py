"""Random books and needs of the small calendar, beside their plain readings."""

from dayspread.book import Book
from dayspread.errors import Clash, SelfClash
from dayspread.hours import weekly_hours
from dayspread.needs import Need
from dayspread.spans import Spans
from tests.plain import values
from tests.plain_papers import PlainBooking, PlainNeed
from tests.series_samples import ZONES
from tests.span_samples import ALL, EVENS, NOTHING, some_sets

RESOURCES = ("red", "blue", "green", "lamp", "desk")
# The plain occurrences of the samples reach beyond this instant.
REACH = 4400


def some_book(source, samples):
    """A book, and its plain bookings by name."""
    book, plain = Book(), {}
    for number in range(source.randint(0, 5)):
        name, sample = f"b{number}", source.choice(samples)
        if sum(sample.settled()) > REACH:
            continue
        resources = tuple(source.sample(RESOURCES, source.randint(1, 3)))
        try:
            book.add(name, sample.series(), resources)
        except (SelfClash, Clash):
            continue
        plain[name] = PlainBooking([*resources, *some_guests(source, book, name)], sample)
    return book, plain


def some_guests(source, book, name):
    """Invites some persons to a booking; returns those who come."""
    coming = []
    for person in source.sample(RESOURCES, 2):
        if person not in book.resources(name):
            book.invite(name, person)
            word = source.choice(("coming", "coming", "absent", "asked"))
            try:
                book.reply(name, person, word)
            except Clash:
                continue
            if word == "coming":
                coming.append(person)
    return coming


def some_hours(source):
    """A span set: rows of spans that come again and again, weekly hours by some clock, all instants or none."""
    kind = source.randrange(6)
    if kind == 0:
        return Spans(*source.choice((ALL, ALL, EVENS, NOTHING)))
    if kind < 3:
        rows = tuple((weekday, source.randint(0, 2), source.randint(3, 6))
                     for weekday in source.sample(range(4), source.randint(1, 4)))
        return weekly_hours(source.choice(ZONES), rows)
    told = some_sets(source.random(), 1)[0]
    if kind == 3:
        return Spans(*told)
    # Longer spans, and times from the start on at which there are none.
    wide = ((0, 30 + told[1]), (50, 50 + told[2]), (64, 90))
    return Spans(((40, 60),) if kind == 4 else (), source.choice((60, 400)), 90, wide)


def some_need(source, starts):
    """A need, and the same one for the plain judge."""
    hours = some_hours(source)
    resources = tuple(source.sample(RESOURCES, source.randint(1, 4)))
    length = source.choice((1, 1, 2, 3, 5, 8, 15))
    before, after = source.choice((0, 0, 1, 5, 30)), source.choice((0, 0, 1, 5, 30))
    start = source.choice(starts)
    need = Need(resources, length, hours=hours, before=before, after=after, start=start)
    return need, PlainNeed(resources, length, values(hours), before, after, start)
