"""The errors that the program raises."""


class DayspreadError(ValueError):
    """The base class of all errors of the program."""


class InvalidCalendar(DayspreadError):
    """The values give no calendar."""


class InvalidZone(DayspreadError):
    """The values give no zone."""


class InvalidRule(DayspreadError):
    """The value or the line is no rule for the calendar."""


class InvalidSpans(DayspreadError):
    """The values describe no span set."""


class InvalidSeries(DayspreadError):
    """The values give no series."""


class InvalidBooking(DayspreadError):
    """A name, a resource, a guest or a word is not as a booking needs it."""


class InvalidNeed(DayspreadError):
    """The values give no need, or no weekly hours."""


class InvalidDay(DayspreadError):
    """There is no such date, or nothing on this day."""


class UnknownBooking(DayspreadError):
    """No booking has the name."""


class UnknownGuest(DayspreadError):
    """The person is no guest of the booking."""


class DuplicateName(DayspreadError):
    """The name is taken already."""


class InvalidLine(DayspreadError):
    """A line of a text cannot be read; `line` is its number."""

    def __init__(self, line):
        super().__init__(f"line {line} cannot be read")
        self.line = line


class SelfClash(DayspreadError):
    """Two occurrences of a series share an instant; `instant` is the first such one."""

    def __init__(self, instant):
        super().__init__(f"two occurrences of the series share the instant {instant}")
        self.instant = instant


class Clash(DayspreadError):
    """The booking `name` holds `resource` at `instant` already."""

    def __init__(self, name, resource, instant):
        super().__init__(f"the booking {name} holds {resource} at the instant {instant}")
        self.name = name
        self.resource = resource
        self.instant = instant
