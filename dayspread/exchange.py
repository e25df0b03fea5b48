"""Books as text (points 11.1 and 11.2)."""

from dayspread.book import WORDS, Book
from dayspread.errors import DayspreadError, InvalidLine, InvalidRule
from dayspread.series import Series
from dayspread.written import format_rule, joined, parse_rule

# By the first word of a line, "" standing for the beginning of the text: the words with which the next one may begin.
FOLLOWERS = {
    "": ("booking",),
    "booking": ("rule",),
    "rule": ("at",),
    "at": ("dropped", "moved", "guest", "end"),
    "dropped": ("moved", "guest", "end"),
    "moved": ("moved", "guest", "end"),
    "guest": ("guest", "end"),
    "end": ("booking",),
}


def booking_lines(book, name):
    """The lines that write a booking."""
    series = book.series(name)
    lines = [
        f"booking {name} {joined(book.resources(name))}",
        f"rule {format_rule(series.rule)}",
        f"at {series.unit} for {series.length}",
    ]
    if series.dropped:
        lines.append(f"dropped {joined(series.dropped)}")
    lines.extend([f"moved {joined(row)}" for row in series.moved])
    lines.extend([f"guest {person} {word}" for person, word in book.guests(name)])
    lines.append("end")
    return lines


def write_book(book):
    """The written form of a book."""
    return "\n".join([line for name in book.names() for line in booking_lines(book, name)])


def numbers_of(words):
    """The tuple of the numbers that the words write without leading zeros; None if one of them writes none."""
    for word in words:
        if not word.isdecimal() or (word[0] == "0" and word != "0"):
            return None
    return tuple([int(word) for word in words])


def rule_of(calendar, words):
    """The rule that the words write, or None if they write none."""
    try:
        return parse_rule(calendar, joined(words))
    except InvalidRule:
        return None


def told_by(calendar, words):
    """What the words of a line tell behind the first one, or None if they do not have their form."""
    if "" in words:
        return None
    word = words[0]
    rest = words[1:]
    many = len(rest)
    if word == "booking":
        return tuple(rest) if many > 1 else None
    if word == "rule":
        return rule_of(calendar, rest)
    if word == "at":
        return numbers_of([rest[0], rest[2]]) if many == 3 and rest[1] == "for" else None
    if word == "dropped":
        return numbers_of(rest) if many > 0 else None
    if word == "moved":
        return numbers_of(rest) if many == 3 else None
    if word == "guest":
        return tuple(rest) if many == 2 and rest[1] in WORDS else None
    return () if many == 0 else None


def put(book, zone, told):
    """Puts a booking into the book; given is, by first words, what its lines tell."""
    name, *resources = told["booking"][0]
    unit, length = told["at"][0]
    dropped = sorted(told["dropped"][0]) if told["dropped"] else ()
    moved = sorted(told["moved"])
    series = Series(zone, told["rule"][0], unit, length, dropped=tuple(dropped), moved=tuple(moved))
    book.add(name, series, tuple(resources))
    for person, word in told["guest"]:
        book.invite(name, person)
        book.reply(name, person, word)


def check_put(book, zone, told, number):
    """Puts a booking into the book; refuses the line of this number if that is not possible."""
    try:
        put(book, zone, told)
    except DayspreadError:
        raise InvalidLine(number) from None


def read_book(zone, text):
    """The book that a text writes, with this zone for all series."""
    book = Book()
    lines = text.split("\n") if text else []
    last = ""
    first = 0
    told = {}
    for number, line in enumerate(lines, start=1):
        words = line.split(" ")
        row = told_by(zone.calendar, words) if words[0] in FOLLOWERS[last] else None
        if row is None:
            raise InvalidLine(number)
        last = words[0]
        if last == "booking":
            first = number
            told = {word: [] for word in FOLLOWERS}
        told[last].append(row)
        if last == "end":
            check_put(book, zone, told, first)
    if last not in ("", "end"):
        raise InvalidLine(len(lines) + 1)
    return book
