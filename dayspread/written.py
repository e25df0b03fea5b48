"""Rules as lines of words (point 3.4)."""

from dayspread.errors import InvalidRule
from dayspread.rules import check_rule


def joined(values):
    """The values as words of a line."""
    return " ".join([str(value) for value in values])


def format_place(place):
    """A place as a word."""
    return ":".join([str(part) for part in place])


def format_places(places):
    """Places as words of a line."""
    return joined([format_place(place) for place in places])


def format_pattern(pattern):
    """The written form of a pattern."""
    start = f"every {pattern[1]} {pattern[0]}"
    if pattern[0] == "days":
        return start
    if pattern[0] == "weeks":
        return f"{start} on {joined(pattern[2])}"
    if pattern[0] == "months":
        return f"{start} at {format_places(pattern[2])}"
    return f"{start} in {pattern[2]} at {format_places(pattern[3])}"


def format_rule(rule):
    """The written form of a rule."""
    pattern, first, end = rule
    line = f"{format_pattern(pattern)} from {first}"
    return line if end == ("never",) else f"{line} {joined(end)}"


def parse_number(word):
    """The number that a word writes."""
    if not word.isdecimal():
        raise InvalidRule("a word of the line is no number")
    return int(word)


def parse_numbers(words):
    """The tuple of the numbers that the words write."""
    return tuple([parse_number(word) for word in words])


def parse_place(word):
    """The place that a word writes, if it writes one."""
    parts = word.split(":")
    numbers = parse_numbers(parts[1:])
    return (parts[0], *numbers)


def parse_places(words):
    """The places that the words write, if they write such."""
    return tuple([parse_place(word) for word in words])


def parse_pattern(words):
    """The pattern that the words write, if they write one."""
    if len(words) < 3:
        raise InvalidRule("the line has too few words")
    unit = words[2]
    every = parse_number(words[1])
    if unit == "days":
        return (unit, every)
    if unit == "weeks":
        return (unit, every, parse_numbers(words[4:]))
    if unit == "months":
        return (unit, every, parse_places(words[4:]))
    if unit != "years" or len(words) < 5:
        raise InvalidRule("the line has no pattern")
    return (unit, every, parse_number(words[4]), parse_places(words[6:]))


def parse_end(words):
    """The end that the words write, if they write one."""
    if not words:
        return ("never",)
    numbers = parse_numbers(words[1:])
    return (words[0], *numbers)


def parse_rule(calendar, line):
    """The rule whose written form is the line."""
    words = line.split(" ")
    if "from" not in words[:-1]:
        raise InvalidRule("the line has no first day")
    place = words.index("from")
    pattern = parse_pattern(words[:place])
    rule = check_rule(calendar, (pattern, parse_number(words[place + 1]), parse_end(words[place + 2:])))
    # The parts above pass over some words and read leading zeros, too; here the line is held against the
    # only one that writes this rule.
    if format_rule(rule) != line:
        raise InvalidRule("the line is not written as it has to be")
    return rule
