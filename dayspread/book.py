"""The book: bookings of which no two hold a resource at the same instant (points 6.1 to 6.4)."""

from dayspread.edits import split_at, with_moved, without_day
from dayspread.errors import Clash, DuplicateName, InvalidBooking, SelfClash, UnknownBooking, UnknownGuest
from dayspread.keeping import Kept
from dayspread.names import are_resources, is_name
from dayspread.spans import Spans

MOST_GUESTS = 8
ASKED = "asked"
COMING = "coming"
WORDS = (ASKED, COMING, "absent")


def held_by(resources, guests):
    """All that a booking holds, in the order of point 6.3: its resources, then the guests who are coming."""
    coming = [person for person, word in guests if word == COMING]
    return (*resources, *coming)


class Book:
    """A book, without bookings at first."""

    def __init__(self):
        # By name: the series (a Kept), the resources, the guests as ascending pairs of person and word, and all that
        # the booking holds.
        self._bookings = {}

    def add(self, name, series, resources):
        """Puts a new booking into the book."""
        if not is_name(name) or not are_resources(resources):
            raise InvalidBooking("the name or the resources are none of a booking")
        self._check_free(name)
        self._check_times(name, series, resources)
        self._put(name, Kept(series), resources, ())

    def remove(self, name):
        """Takes a booking out of the book."""
        self._booking(name)
        del self._bookings[name]

    def drop(self, name, day):
        """Drops a day of a booking."""
        kept, resources, guests, _ = self._booking(name)
        self._put(name, Kept(without_day(kept.own, day)), resources, guests)

    def move(self, name, day, start, length):
        """Moves a day of a booking."""
        kept, resources, guests, held = self._booking(name)
        series = with_moved(kept.own, day, start, length)
        self._check_times(name, series, held)
        self._put(name, Kept(series), resources, guests)

    def divide(self, name, day, new_name):
        """Splits a booking; the second part becomes a new booking with the same resources and guests."""
        kept, resources, guests, _ = self._booking(name)
        if not is_name(new_name):
            raise InvalidBooking("the new name is no name")
        self._check_free(new_name)
        early, late = split_at(kept.own, day)
        self._put(name, Kept(early), resources, guests)
        self._put(new_name, Kept(late), resources, guests)

    def invite(self, name, person):
        """Makes a person a guest of a booking."""
        kept, resources, guests, _ = self._booking(name)
        if not is_name(person):
            raise InvalidBooking("the person is no name")
        if person in resources or person in dict(guests):
            raise DuplicateName("the person is a guest or a resource of the booking")
        if len(guests) >= MOST_GUESTS:
            raise InvalidBooking(f"the booking has {MOST_GUESTS} guests")
        self._put(name, kept, resources, tuple(sorted([*guests, (person, ASKED)])))

    def reply(self, name, person, word):
        """Gives a guest of a booking a word."""
        kept, resources, guests, _ = self._booking(name)
        if person not in dict(guests):
            raise UnknownGuest("the person is no guest of the booking")
        if word not in WORDS:
            raise InvalidBooking("the word is none of a guest")
        if word == COMING:
            self._check_clash(name, kept.own, (person,))
        words = [(guest, word if guest == person else known) for guest, known in guests]
        self._put(name, kept, resources, tuple(words))

    def names(self):
        """The names of the bookings, ascending."""
        return tuple(sorted(self._bookings))

    def series(self, name):
        """The series of a booking."""
        return self._booking(name)[0].told()

    def resources(self, name):
        """The resources of a booking, without its guests."""
        return self._booking(name)[1]

    def guests(self, name):
        """The pairs of person and word of the guests of a booking, ascending."""
        return self._booking(name)[2]

    def busy(self, resource):
        """The span set of the instants at which a resource is held."""
        found = Spans((), 0, 1, ())
        for series in self.bookings_of((resource,)).values():
            found = found | series.spans()
        return found

    def holder(self, resource, instant):
        """The name of the booking that holds a resource at an instant, or None."""
        for name, series in self.bookings_of((resource,)).items():
            if series.covers(instant):
                return name
        return None

    def agenda(self, resource, start, stop):
        """The rows (start, end, name, day) of all occurrences of a resource within the bounds, ascending."""
        rows = []
        for name, series in self.bookings_of((resource,)).items():
            found = series.occurrences(start, stop)
            rows.extend([(low, high, name, day) for low, high, day in found])
        return tuple(sorted(rows))

    def copy(self):
        """Another book with the same bookings."""
        book = Book()
        # Bookings are never changed, only replaced by others; so both books may have the same ones.
        book._bookings = dict(self._bookings)
        return book

    def entry(self, name):
        """The kept series, the resources and the guests of a booking, or None if no booking has the name."""
        return self._bookings[name][:3] if name in self._bookings else None

    def bookings_of(self, resources):
        """The series of all bookings that have one of the resources, by name, in ascending order of the names."""
        names = [name for name, row in self._bookings.items() if any([held in resources for held in row[3]])]
        return {name: self._bookings[name][0].own for name in sorted(names)}

    def _put(self, name, kept, resources, guests):
        """Makes a booking as it is to be."""
        self._bookings[name] = (kept, resources, guests, held_by(resources, guests))

    def _booking(self, name):
        """The booking with this name."""
        if name not in self._bookings:
            raise UnknownBooking("no booking has the name")
        return self._bookings[name]

    def _check_free(self, name):
        """Refuses a name that a booking has."""
        if name in self._bookings:
            raise DuplicateName("a booking has the name")

    def _check_times(self, name, series, held):
        """Refuses a series with which the booking of this name would break point 6.2."""
        shared = series.self_clash()
        if shared is not None:
            raise SelfClash(shared)
        self._check_clash(name, series, held)

    def _check_clash(self, name, series, held):
        """Refuses a series that clashes with other bookings than that of this name (point 6.3)."""
        spans = series.spans()
        rivals = {other: rival for other, rival in self.bookings_of(held).items() if other != name}
        meetings = {other: spans.meets(rival.spans()) for other, rival in rivals.items()}
        instants = [instant for instant in meetings.values() if instant is not None]
        if not instants:
            return
        first = min(instants)
        names = [other for other in rivals if meetings[other] == first]
        for resource in held:
            for other in names:
                if resource in self._bookings[other][3]:
                    raise Clash(other, resource, first)
