"""Acts: changes of a book, told as tuples (point 8.2)."""

from dayspread.errors import (Clash, DuplicateName, InvalidBooking, InvalidDay, SelfClash, UnknownBooking,
                              UnknownGuest)

# These acts tell, behind the name, the version that their booking is to have.
WITH_VERSION = ("remove", "drop", "move", "split", "invite")


def concerned(act):
    """The names of the bookings that an act concerns (point 9.1)."""
    return (act[1], act[4]) if act[0] == "split" else (act[1],)


def carry_out(book, act):
    """Does in the book what the act says, whatever its version; raises what the book raises."""
    word = act[0]
    name = act[1]
    if word == "add":
        book.add(name, act[2], act[3])
    elif word == "remove":
        book.remove(name)
    elif word == "drop":
        book.drop(name, act[3])
    elif word == "move":
        book.move(name, act[3], act[4], act[5])
    elif word == "split":
        book.divide(name, act[3], act[4])
    elif word == "invite":
        book.invite(name, act[3])
    else:
        book.reply(name, act[2], act[3])


def refusal(book, act):
    """Does in the book what the act says; the parts of its refusal behind "refused", or None if it is done."""
    try:
        carry_out(book, act)
    except UnknownBooking:
        return ("unknown",)
    except UnknownGuest:
        return ("guest",)
    except DuplicateName:
        return ("guest",) if act[0] == "invite" else ("duplicate",)
    except InvalidBooking:
        # All names and words of an act are valid, so this is a ninth guest.
        return ("full",)
    except InvalidDay:
        return ("day",)
    except SelfClash as overlap:
        return "self", overlap.instant
    except Clash as clash:
        return "clash", clash.resource, clash.instant
    return None
