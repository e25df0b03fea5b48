"""The interface of the document: names, arguments and kinds, each in the file under which it is listed."""

import importlib
import inspect
import unittest

FUNCTIONS = {
    "places": {"is_place": "(calendar, place)", "place_day": "(calendar, index, place)",
               "is_at": "(calendar, place, day)"},
    "rules": {"check_rule": "(calendar, rule)", "fits": "(calendar, rule, day)", "tells": "(calendar, rule, day)"},
    "walk": {"next_day": "(calendar, rule, day)", "days_between": "(calendar, rule, start, stop)",
             "last_day": "(calendar, rule)"},
    "segments": {"merged": "(spans)", "cut": "(spans, start, stop)", "gaps": "(spans, start, stop)",
                 "common": "(first, second)"},
    "hours": {"summer": "(zone)", "weekly_hours": "(zone, rows)"},
    "edits": {"without_day": "(series, day)", "with_moved": "(series, day, start, length)",
              "split_at": "(series, day)"},
    "needs": {"is_possible": "(book, need, instant)"},
    "papers": {"is_right": "(book, need, block)", "covers_from": "(blocks, start, stop)",
               "is_certificate": "(book, need, certificate)"},
    "finder": {"find": "(book, need)"},
    "reminders": {"rings": "(book, resource, lead, start, stop)", "next_ring": "(book, resource, lead, instant)"},
    "exchange": {"write_book": "(book)", "read_book": "(zone, text)"},
    "written": {"format_rule": "(rule)", "parse_rule": "(calendar, line)"},
}
CLASSES = {
    ("almanac", "Calendar"): {
        "__init__": "(self, months, *, long_month=1, extra=0, cycle=1, long_years=(), week=7, day=1440)",
        "is_long": "(self, year)", "year_length": "(self, year)", "month_length": "(self, year, month)",
        "year_start": "(self, year)", "month_start": "(self, index)", "date_of": "(self, day)",
        "day_of": "(self, year, month, number)", "month_index": "(self, day)", "weekday": "(self, day)",
        "cycle_days": "(self)", "repeat_days": "(self)"},
    ("zone", "Zone"): {
        "__init__": "(self, calendar, offset, *, shift=0, on=None, off=None)",
        "is_summer": "(self, instant)", "local": "(self, instant)", "instant": "(self, local)"},
    ("spans", "Spans"): {
        "__init__": "(self, head, since, period, cycle)", "__contains__": "(self, instant)",
        "__or__": "(self, other)", "__and__": "(self, other)", "__sub__": "(self, other)", "__invert__": "(self)",
        "__eq__": "(self, other)", "shifted": "(self, by)", "widened": "(self, before, after)",
        "room": "(self, length)", "first": "(self)", "next_from": "(self, instant)", "is_empty": "(self)",
        "differs": "(self, other)", "measure": "(self, start, stop)", "parts": "(self, start, stop)"},
    ("series", "Series"): {
        "__init__": "(self, zone, rule, unit, length, *, dropped=(), moved=())", "occurrence": "(self, day)",
        "covers": "(self, instant)", "occurrences": "(self, start, stop)", "spans": "(self)", "settled": "(self)",
        "self_clash": "(self)"},
    ("book", "Book"): {
        "__init__": "(self)", "add": "(self, name, series, resources)", "remove": "(self, name)",
        "drop": "(self, name, day)", "move": "(self, name, day, start, length)",
        "divide": "(self, name, day, new_name)", "invite": "(self, name, person)",
        "reply": "(self, name, person, word)", "names": "(self)", "series": "(self, name)",
        "resources": "(self, name)", "guests": "(self, name)", "busy": "(self, resource)",
        "holder": "(self, resource, instant)", "agenda": "(self, resource, start, stop)", "copy": "(self)"},
    ("needs", "Need"): {
        "__init__": "(self, resources, length, *, hours=None, before=0, after=0, start=0)"},
    ("server", "Server"): {
        "__init__": "(self)", "do": "(self, act)", "book": "(self)", "total": "(self)", "version": "(self, name)",
        "changes": "(self, token)", "receive": "(self, message)"},
    ("device", "Device"): {
        "__init__": "(self, number)", "add": "(self, name, series, resources)", "remove": "(self, name)",
        "drop": "(self, name, day)", "move": "(self, name, day, start, length)",
        "divide": "(self, name, day, new_name)", "invite": "(self, name, person)",
        "reply": "(self, name, person, word)", "pull": "(self)", "outgoing": "(self)", "receive": "(self, reply)",
        "names": "(self)", "entry": "(self, name)", "token": "(self)", "waiting": "(self)", "answers": "(self)"},
    ("network", "Network"): {
        "__init__": "(self, server, devices)", "send": "(self, number)", "deliver": "(self, place)",
        "lose": "(self, place)", "repeat": "(self, place)", "messages": "(self)"},
}


class InterfaceTest(unittest.TestCase):
    def test_functions(self):
        for file, functions in FUNCTIONS.items():
            module = importlib.import_module(f"dayspread.{file}")
            for name, signature in functions.items():
                found = getattr(module, name)
                self.assertEqual(found.__module__, module.__name__)
                self.assertEqual(str(inspect.signature(found)), signature, name)

    def test_classes(self):
        for (file, name), methods in CLASSES.items():
            module = importlib.import_module(f"dayspread.{file}")
            found = getattr(module, name)
            self.assertEqual(found.__module__, module.__name__)
            for method, signature in methods.items():
                self.assertEqual(str(inspect.signature(found.__dict__[method])), signature, (name, method))
