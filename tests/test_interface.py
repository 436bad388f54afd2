"""The interface: each name in its module, with its arguments, and what kind of thing it tells."""

import importlib
import inspect
import unittest

from mainfires.desk import Desk
from mainfires.errors import MainError
from mainfires.watches import Watch
from tests.helper import CALLS, DAYS, EDGES, SHORT, SHORT_STORY, TIGHT, TIGHT_STORY, chance_firings, right_things

NUMBER, TRUTH, TUPLE, LIST, TEXT, NONE = int, bool, tuple, list, str, type(None)

# By module and name: the arguments, and the kinds of what is told.
INTERFACE = {
    "kinds": {
        "is_plant": ("thing", TRUTH),
        "is_story": ("plant, thing", TRUTH),
        "is_firing": ("plant, story, thing", TRUTH),
        "caps_of": ("plant, story", TUPLE),
        "draws_of": ("plant, story", TUPLE),
        "full_firing": ("plant, story", TUPLE),
    },
    "days": {
        "course": ("plant, story, firing", LIST),
        "falls_at": ("plant, story, firing", TUPLE, NONE),
        "keeps_up": ("plant, story, firing", TRUTH),
        "coal_of": ("plant, story, firing", NUMBER),
        "steam_by": ("plant, story, firing", TUPLE),
        "banked": ("plant, story, firing", LIST),
        "books_right": ("plant, story, firing, thing", TRUTH),
    },
    "least": {
        "floor_of": ("plant, story, prices", NUMBER),
        "cheapest": ("plant, story", TUPLE),
        "cheapest_holds": ("plant, story, thing", TRUTH),
        "prices_hold": ("plant, story, firing, thing", TRUTH),
        "least_coal": ("plant, story", NUMBER, NONE),
    },
    "stretches": {
        "stretch_holds": ("plant, story, thing", TRUTH),
        "stretch_of": ("plant, story", TUPLE, NONE),
        "leanest": ("plant, story", TUPLE, NONE),
        "fullest": ("plant, story", TUPLE),
    },
    "units": {
        "more_drawn": ("plant, story, hour", NUMBER, NONE),
        "less_drawn": ("plant, story, hour", NUMBER, NONE),
        "lower": ("plant, story", NUMBER, NONE),
        "fuller": ("plant, story", NUMBER, NONE),
        "wider": ("plant, story", NUMBER),
        "better": ("plant, story, boiler, hour", NUMBER),
    },
    "sets": {
        "fewest": ("plant, story", TUPLE),
        "fewest_holds": ("plant, story, thing", TRUTH),
        "alone": ("plant, story, chosen", NUMBER, NONE),
        "needed": ("plant, story", TUPLE),
    },
    "outs": {
        "least_moved": ("plant, story, firing, boiler, hour", NUMBER, NONE),
        "moved": ("plant, story, firing, boiler, hour", TUPLE, NONE),
        "moved_by": ("plant, story, firing, boiler, hour, thing", NUMBER, NONE),
        "outs_let": ("plant, story, firing, boiler", LIST),
    },
    "water": {
        "is_feeding": ("plant, story, pump, thing", TRUTH),
        "water_at": ("plant, story, firing, tanks, pump, feeding", LIST),
        "dry_at": ("plant, story, firing, tanks, pump, feeding", TUPLE, NONE),
        "feeds": ("plant, story, firing, tanks, pump", TUPLE),
        "feeds_holds": ("plant, story, firing, tanks, pump, thing", TRUTH),
        "least_pump": ("plant, story, firing, tanks", NUMBER),
    },
    "dials": {
        "is_readings": ("thing", TRUTH),
        "agree": ("readings, start", TRUTH),
        "off_dials": ("readings, start", LIST),
    },
    "shifts": {
        "shift_coal": ("plant, story, firing, shifts", TUPLE),
        "lacking": ("plant, story, firing, shifts, book", LIST),
    },
    "texts": {
        "firing_text": ("plant, story, firing", TEXT),
        "firing_read": ("plant, story, text", TUPLE),
    },
}
METHODS = (
    (Watch, "plant, story"),
    (Watch.stoke, "self, hour, boiler, amount"),
    (Watch.bank, "self, hour"),
    (Watch.take_over, "self, firing"),
    (Watch.undo, "self"),
    (Watch.kept_firing, "self"),
    (Desk, "plant, story"),
    (Desk.say, "self, line"),
)


def functions():
    """Each function of the interface, its arguments, and the kinds of what it tells."""
    for module, rows in INTERFACE.items():
        for name, (arguments, *kinds) in rows.items():
            yield getattr(importlib.import_module("mainfires." + module), name), arguments, kinds


def days():
    """Plants, stories and firings that keep up, and such without one."""
    edges = [(plant, story) for name, plant, story in EDGES] + [(TIGHT, TIGHT_STORY)]
    found = list(DAYS) + [(plant, story, firing) for plant, story in edges for firing in chance_firings(plant, story)]
    return found + [(SHORT, SHORT_STORY, ((0,), (0,), (0,)))]


class Interface(unittest.TestCase):
    def assert_takes(self, call, arguments):
        taken = inspect.signature(call).parameters.values()
        self.assertEqual(", ".join(each.name for each in taken), arguments, call)
        for each in taken:
            self.assertIs(each.kind, inspect.Parameter.POSITIONAL_OR_KEYWORD)
            self.assertIs(each.default, inspect.Parameter.empty)

    def test_functions(self):
        for call, arguments, kinds in functions():
            self.assert_takes(call, arguments)

    def test_classes(self):
        for call, arguments in METHODS:
            self.assert_takes(call, arguments)

    def test_each_function_is_called_by_the_tests_over_all(self):
        called = [(call, ", ".join(names)) for call, names in CALLS]
        self.assertCountEqual(called, [(call, arguments) for call, arguments, kinds in functions()])

    def test_kinds_of_what_is_told(self):
        seen = {}
        for day in days():
            things = right_things(day)
            if len(day[2]) == 1:
                things = dict(things, shifts=(0,), book=(1,))
            for call, arguments, kinds in functions():
                try:
                    told = call(*[things[name] for name in arguments.split(", ")])
                except MainError:
                    continue
                self.assertIn(type(told), kinds, call)
                seen.setdefault(call, set()).add(type(told))
        for call, arguments, kinds in functions():
            if call.__name__ != "moved_by":
                self.assertEqual(seen[call], set(kinds), call)


if __name__ == "__main__":
    unittest.main()
