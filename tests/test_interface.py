"""The interface: each name with its parameters, defined in its file, each method in its class itself."""

import importlib
import inspect
import unittest

FUNCTIONS = {
    "missedmarks.data": {
        "is_event": "(thing)", "is_timetable": "(thing)", "is_sweeps": "(timetable, thing)",
        "is_guards": "(timetable, thing)", "entries": "(timetable)", "readers_of": "(timetable)",
        "guards_of": "(timetable)",
    },
    "missedmarks.log": {"run": "(timetable, hold, sweeps=(), guards=())"},
    "missedmarks.paths": {
        "times_of": "(timetable, reader)", "places_at": "(timetable)", "next_of": "(timetable, place)",
        "pairs": "(timetable)",
    },
    "missedmarks.stairs": {
        "sweeps_under": "(timetable, bounds)", "wrong_pairs": "(timetable, hold, sweeps, guards=())",
    },
    "missedmarks.wrongs": {
        "gone_by": "(timetable, hold, place, guards=())",
        "may_hold": "(timetable, hold, reader, key, guards=())",
        "story": "(timetable, hold, reader, key, place, guards=())",
        "is_story": "(timetable, hold, reader, key, place, guards, thing)",
        "may_be_wrong": "(timetable, hold, reader, key, guards=())",
        "may_pairs": "(timetable, hold, guards=())",
        "safe_hold": "(timetable, reader, key, guards=())",
        "safe_paper": "(timetable, hold, reader, key, guards=())",
        "shows_safe": "(timetable, hold, reader, key, guards, thing)",
    },
    "missedmarks.atonce": {
        "at_once": "(timetable, hold, these, guards=())", "sweeps_for": "(timetable, hold, these, guards=())",
        "fewest_sweeps": "(timetable, hold, these, guards=())",
        "shows_at_once": "(timetable, hold, these, thing, guards=())",
        "values_at_once": "(timetable, hold, these, guards=())", "greatest_sets": "(timetable, hold, guards=())",
        "most_at_once": "(timetable, hold, guards=())", "knots": "(timetable, hold, guards=())",
        "is_knot": "(timetable, hold, thing, guards=())",
    },
    "missedmarks.guards": {
        "is_enough": "(timetable, hold, guards)", "in_danger": "(timetable, hold, guards)",
        "against": "(timetable, hold, guards)", "fewest_guards": "(timetable, hold)",
        "least_sets": "(timetable, hold)", "vital": "(timetable, hold)", "of_use": "(timetable, hold)",
        "is_block": "(timetable, hold, thing)", "blocks": "(timetable, hold)", "paper": "(timetable, hold)",
        "shows_fewest": "(timetable, hold, thing)", "least_hold": "(timetable, guards=())", "trade": "(timetable)",
    },
    "missedmarks.views": {
        "is_view": "(thing)", "view_of": "(timetable, hold, sweeps, reader)", "held_by": "(view)",
        "can_be": "(hold, view)", "missed_places": "(hold, view, key)", "doubtful": "(hold, view)",
        "sure": "(hold, view)", "doubt": "(hold, view, keys)", "most_doubtful": "(hold, view)",
        "shows_doubt": "(hold, view, keys, thing)",
    },
    "missedmarks.mending": {
        "with_reads": "(timetable, reads)", "mend": "(timetable, hold, guards=())",
        "is_mend": "(timetable, hold, thing, guards=())", "harms": "(timetable, hold, guards=())",
        "first_danger": "(timetable, hold, guards=())", "safe_copies": "(timetable, hold, guards=())",
        "usable_for": "(timetable, hold, copy, guards=())",
    },
    "missedmarks.texts": {
        "timetable_text": "(timetable)", "sweeps_text": "(sweeps)", "guards_text": "(guards)",
        "timetable_in": "(text)", "sweeps_in": "(timetable, text)", "guards_in": "(timetable, text)",
    },
    "missedmarks.desk": {"answers": "(text)"},
}
METHODS = {
    ("missedmarks.log", "Log"): {
        "__init__": "(self, hold, guards=())", "put": "(self, key, value)", "drop": "(self, key)",
        "join": "(self, reader)", "read": "(self, reader, upto)", "save": "(self, reader)",
        "load": "(self, reader, copy)", "wait": "(self)", "do": "(self, event)", "sweep": "(self, point)",
        "there": "(self)", "now": "(self)", "many": "(self)", "seat": "(self, reader)", "table": "(self, reader)",
        "readers": "(self)", "copies": "(self)", "last": "(self, key)", "wrong": "(self, reader)", "twin": "(self)",
        "__eq__": "(self, other)", "__len__": "(self)", "__repr__": "(self)",
    },
    ("missedmarks.session", "Session"): {
        "__init__": "(self, timetable, hold, guards=())", "add": "(self, event)", "insert": "(self, time, event)",
        "drop": "(self, time)", "exchange": "(self, time)", "let": "(self, hold)", "set_guards": "(self, guards)",
        "undo": "(self)", "timetable": "(self)", "hold": "(self)", "guards": "(self)", "many": "(self)",
        "may": "(self)", "most": "(self)", "mended": "(self)", "usable": "(self)", "after": "(self, sweeps)",
        "__iter__": "(self)", "__len__": "(self)", "twin": "(self)",
    },
}


class Interface(unittest.TestCase):
    def test_functions(self):
        for module, functions in FUNCTIONS.items():
            for name, parameters in functions.items():
                function = vars(importlib.import_module(module))[name]
                self.assertTrue(inspect.isfunction(function), name)
                self.assertEqual(function.__module__, module)
                self.assertEqual(str(inspect.signature(function)), parameters)

    def test_methods(self):
        for (module, name), methods in METHODS.items():
            found = vars(importlib.import_module(module))[name]
            self.assertEqual(found.__module__, module)
            for method, parameters in methods.items():
                self.assertIn(method, vars(found))
                self.assertEqual(str(inspect.signature(vars(found)[method])), parameters, method)
