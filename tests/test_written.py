"""Point 3.4: rules as lines, in both directions; a changed line is held against a plain reading of the point."""

import random
import re
import unittest

from dayspread.errors import InvalidRule
from dayspread.rules import check_rule
from dayspread.written import format_rule, parse_rule
from tests.rule_samples import NEVER, PLACES, patterns
from tests.samples import FAR, GREGORIAN, LEAST, SMALL

NUMBER = "(0|[1-9][0-9]*)"
PLACE = "(?:day:N|back:N|weekday:N:N|weekback:N:N)"
LINE = re.compile(("every N (?:(days)|(weeks) on (N(?: N)*)|(months) at (P(?: P)*)|(years) in N at (P(?: P)*))"
                   " from N( until N| count N)?").replace("P", PLACE).replace("N", NUMBER))


def numbers_of(text):
    return tuple(int(word) for word in text.split())


def places_of(text):
    words = [word.split(":") for word in text.split()]
    return tuple((word[0], *map(int, word[1:])) for word in words)


def is_plain_place(calendar, place):
    in_week = len(place) == 2 or 0 <= place[2] < calendar.week
    return 1 <= place[1] <= 60 and in_week


def plain_rule(calendar, line):
    """The rule that a line writes, read by its words as the point says; None if it writes none."""
    if not LINE.fullmatch(line):
        return None
    start, rest = line.split(" from ")
    words = rest.split(" ")
    first = int(words[0])
    end = (words[1], int(words[2])) if len(words) == 3 else NEVER
    _, every, unit, *_ = start.split(" ")
    valid = 1 <= int(every) <= 30 and first >= 2
    if end[0] == "until":
        valid = valid and first <= end[1] <= first + 2000
    if end[0] == "count":
        valid = valid and 1 <= end[1] <= 60
    pattern = (unit, int(every))
    if unit == "weeks":
        weekdays = numbers_of(start.split(" on ")[1])
        valid = valid and list(weekdays) == sorted(set(weekdays)) and weekdays[-1] < calendar.week
        pattern += (weekdays,)
    if unit == "years":
        pattern += (int(start.split(" ")[4]),)
        valid = valid and 1 <= pattern[2] <= len(calendar.months)
    if unit in ("months", "years"):
        places = places_of(start.split(" at ")[1])
        valid = valid and len(places) <= 4 and len(set(places)) == len(places)
        valid = valid and all(is_plain_place(calendar, place) for place in places)
        pattern += (places,)
    return (pattern, first, end) if valid else None


def changed_words(words):
    """The lines in which one word is left out, twice, exchanged with the next one, or spoilt."""
    for at, word in enumerate(words):
        others = (word.upper(), word.capitalize(), word[:-1], "0" + word, "+" + word, "-" + word, word + ".0",
                  word + ":", ":" + word, word.replace(":", " "), word.replace(":", "::"), word.replace(":", ":0"),
                  word.replace(":", ":-"), word + "s", word + "\n", word + "\t", "\t" + word, word + "_1", "x", "0",
                  "7", "61", "", word + "0", str(FAR), word + ":1", word + ":1:1", "\n")
        for other in others:
            yield " ".join([*words[:at], other, *words[at + 1:]])
        yield " ".join(words[:at] + words[at + 1:])
        yield " ".join([*words[:at], word, *words[at:]])
        yield " ".join([*words[:at], *words[at:at + 2][::-1], *words[at + 2:]])
        for more in ("from", "every", "at", "on", "in", "until", "count", "never", "1", "day:1"):
            yield " ".join([*words[:at], more, *words[at:]])


def changed_lines(line):
    """Lines that differ from a written form by one change."""
    yield from changed_words(line.split(" "))
    for more in (" ", "\n", "\t", "  ", ".", " 1", " never", " until", " count", " from 5", " count 1", "0", "\n\n"):
        yield line + more
        yield more + line
    for at, sign in enumerate(line):
        yield line[:at] + line[at + 1:]
        yield line[:at] + sign + line[at:]
        yield line[:at] + sign.upper() + line[at + 1:]
        if sign == " ":
            for other in ("\t", "\n", "", "_", "   "):
                yield line[:at] + other + line[at + 1:]
    yield line.upper()
    yield line[::-1]


class BothWaysTest(unittest.TestCase):
    def check(self, calendar, rule, line):
        self.assertEqual(format_rule(rule), line)
        self.assertEqual(parse_rule(calendar, line), rule)

    def test_the_examples_of_the_point(self):
        self.check(GREGORIAN, (("weeks", 2, (1, 3)), 14, ("count", 10)), "every 2 weeks on 1 3 from 14 count 10")
        self.check(GREGORIAN, (("months", 1, (("back", 1), ("weekday", 2, 0))), 31, NEVER),
                   "every 1 months at back:1 weekday:2:0 from 31")

    def test_each_pattern(self):
        self.check(SMALL, (("days", 1), 2, NEVER), "every 1 days from 2")
        self.check(SMALL, (("days", 30), 10, ("until", 2010)), "every 30 days from 10 until 2010")
        self.check(SMALL, (("weeks", 10, (0, 1, 2, 3)), 7, ("count", 60)), "every 10 weeks on 0 1 2 3 from 7 count 60")
        self.check(SMALL, (("months", 3, (("day", 60),)), 7, ("until", 7)), "every 3 months at day:60 from 7 until 7")
        self.check(SMALL, (("years", 4, 3, (("weekback", 1, 0),)), 99, ("count", 1)),
                   "every 4 years in 3 at weekback:1:0 from 99 count 1")
        self.check(GREGORIAN, (("years", 20, 12, (("day", 31), ("back", 10), ("weekday", 5, 6), ("weekback", 1, 0))),
                               100, NEVER),
                   "every 20 years in 12 at day:31 back:10 weekday:5:6 weekback:1:0 from 100")

    def test_places_keep_their_order(self):
        self.check(SMALL, (("months", 1, (("day", 3), ("day", 1), ("back", 2))), 5, NEVER),
                   "every 1 months at day:3 day:1 back:2 from 5")

    def test_all_rules(self):
        for calendar in PLACES:
            for pattern in patterns(calendar, (1, 9, 10, 30)):
                for first in (2, 10, FAR):
                    for end in (NEVER, ("until", first), ("until", first + 2000), ("count", 1), ("count", 60)):
                        rule = (pattern, first, end)
                        line = format_rule(rule)
                        self.assertEqual(plain_rule(calendar, line), rule)
                        self.assertEqual(parse_rule(calendar, line), rule)

    def test_numbers_of_300_digits(self):
        first = 10 ** 300 - 2001
        self.check(SMALL, (("days", 1), first, ("until", first + 2000)),
                   f"every 1 days from {first} until {first + 2000}")


class RefusedTest(unittest.TestCase):
    def refused(self, calendar, line):
        with self.assertRaises(InvalidRule, msg=line) as caught:
            parse_rule(calendar, line)
        self.assertIs(type(caught.exception), InvalidRule)

    def check(self, calendar, line):
        expected = plain_rule(calendar, line)
        if expected is None:
            self.refused(calendar, line)
        else:
            self.assertEqual(parse_rule(calendar, line), check_rule(calendar, expected), line)

    def test_one_change(self):
        refused = 0
        for line in ("every 2 weeks on 1 3 from 14 count 10", "every 1 months at back:1 weekday:2:0 from 31",
                     "every 30 days from 10 until 99", "every 4 years in 3 at weekback:1:3 day:10 from 7",
                     "every 10 months at day:20 from 1000 count 60", "every 1 days from 2",
                     "every 1 years in 1 at back:9 from 9 until 2009"):
            self.assertEqual(format_rule(parse_rule(SMALL, line)), line)
            for changed in changed_lines(line):
                self.check(SMALL, changed)
                refused += plain_rule(SMALL, changed) is None
        self.assertGreater(refused, 1000)

    def test_lines_that_are_no_written_form(self):
        for line in ("", " ", "\n", "\t", "every", "every 1", "every 1 days", "every 1 days from", "from", "from 2",
                     "days from 2", "every from 2", "every 1 from 2", "every  days from 2", "every 1 days from 2\n",
                     "every 1 days from 2\t", "every 1 days from 2 ", " every 1 days from 2", "every 01 days from 2",
                     "every 1 days from 02", "every +1 days from 2", "every 1 days from +2", "every 1 days from -2",
                     "every 1 days  from 2", "every 1 days\tfrom 2", "every 1 days from 2 never", "EVERY 1 DAYS FROM 2",
                     "every 1 day from 2", "every one days from 2", "every 1 days from 2 from 2",
                     "every 1 days from 2 count", "every 1 days from 2 until", "every 1 days from 2 count 1 until 3",
                     "every 1 days from 2 count 01", "every 1 days from 2 until 2 2", "every 1 weeks from 2",
                     "every 1 weeks on from 2", "every 1 weeks 1 from 2", "every 1 weeks at 1 from 2",
                     "every 1 weeks on 1,2 from 2", "every 1 weeks on 01 from 2", "every 1 months from 2",
                     "every 1 months at from 2", "every 1 months on day:1 from 2", "every 1 months at day:01 from 2",
                     "every 1 months at day: from 2", "every 1 months at day from 2", "every 1 months at day:1:1 from 2",
                     "every 1 months at weekday:1 from 2", "every 1 months at :1 from 2",
                     "every 1 months at day:1, back:1 from 2", "every 1 months at day 1 from 2",
                     "every 1 months at Day:1 from 2", "every 1 years from 2", "every 1 years at day:1 from 2",
                     "every 1 years in from 2", "every 1 years in 1 from 2", "every 1 years in 1 at from 2",
                     "every 1 years in 1 day:1 from 2", "every 1 years in at day:1 from 2",
                     "every 1 years in 01 at day:1 from 2", "each 1 days from 2", "1 days from 2",
                     "every 1 days on 1 from 2", "every 1 days 1 from 2"):
            self.assertIsNone(plain_rule(SMALL, line))
            self.refused(SMALL, line)

    def test_numbers_beyond_their_bounds(self):
        for line in ("every 0 days from 2", "every 31 days from 2", "every 1 days from 1", "every 1 days from 0",
                     "every 1 days from 5 until 4", "every 1 days from 5 until 2006", "every 1 days from 5 count 0",
                     "every 1 days from 5 count 61", "every 1 weeks on 4 from 2", "every 1 weeks on 1 0 from 2",
                     "every 1 weeks on 1 1 from 2", "every 1 months at day:0 from 2", "every 1 months at day:61 from 2",
                     "every 1 months at back:0 from 2", "every 1 months at weekday:1:4 from 2",
                     "every 1 months at weekback:61:0 from 2", "every 1 months at day:1 day:1 from 2",
                     "every 1 months at day:1 day:2 day:3 day:4 day:5 from 2", "every 1 years in 0 at day:1 from 2",
                     "every 1 years in 4 at day:1 from 2", f"every {FAR} days from 2", f"every 1 weeks on {FAR} from 2",
                     f"every 1 months at day:{FAR} from 2", f"every 1 days from 2 count {FAR}"):
            self.refused(SMALL, line)

    def test_the_calendar_counts(self):
        self.refused(LEAST, "every 1 weeks on 1 from 2")
        self.refused(LEAST, "every 1 years in 2 at day:1 from 2")
        self.assertEqual(parse_rule(SMALL, "every 1 weeks on 1 from 2"), (("weeks", 1, (1,)), 2, NEVER))
        self.assertEqual(parse_rule(SMALL, "every 1 years in 2 at day:1 from 2"),
                         (("years", 1, 2, (("day", 1),)), 2, NEVER))

    def test_words_in_any_order(self):
        words = ("every", "1", "2", "days", "weeks", "months", "years", "on", "at", "in", "from", "until", "count",
                 "day:1", "weekday:1:1", "", "0", "-1", "never", "3\n")
        source = random.Random(34)
        for _ in range(20000):
            line = " ".join(source.choice(words) for _ in range(source.randrange(1, 9)))
            self.check(SMALL, line)
            self.check(SMALL, "every " + line)
            self.check(SMALL, "every 1 " + line + " from 2")
