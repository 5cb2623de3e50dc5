"""The names and arguments of the interface, each in the file that the document names."""

import importlib
import inspect
import unittest

from bearerwise.shares import Shares

FUNCTIONS = {
    "fields": {
        "field_bytes": ["widths"], "pack": ["widths", "values"], "unpack": ["widths", "data"],
    },
    "segments": {
        "data_piece": ["bits", "poll", "number", "part", "offset", "body"],
        "status_piece": ["bits", "upto", "missing"],
        "status_bytes": ["bits", "count"],
        "read_piece": ["bits", "piece"],
        "cut": ["bits", "poll", "number", "packet", "start", "stop", "room"],
    },
    "windows": {
        "window_size": ["bits"], "short": ["number", "bits"], "distance": ["base", "value", "bits"],
        "read_short": ["value", "base", "behind", "bits"],
        "play_numbers": ["bits", "window", "acts"], "fooling": ["bits"],
    },
    "covers": {
        "row_of": ["key", "bearer", "way", "count", "size"], "mark_of": ["key", "bearer", "way", "count"],
        "cover": ["key", "bearer", "way", "count", "packet"], "uncover": ["key", "bearer", "way", "count", "covered"],
    },
    "counts": {
        "short_of": ["count", "bits"], "count_near": ["expected", "short", "bits"],
        "count_from": ["first", "short", "bits"], "window": ["bits"],
    },
    "shares": {
        "least_units": ["promise", "units", "n"], "most_units": ["promise", "free", "units", "n"],
    },
    "judge": {
        "first_fault": ["went_in", "came_out", "bound", "quiet"],
        "bill_fault": ["packets", "metered", "billed", "is_settled"],
    },
}
ERRORS = ["BearerError", "NotValid", "Broken"]
# Each class with the arguments of its objects, the fields and the methods with theirs.
CLASSES = {
    "sender": {"Sender": (["bits", "window"], ["bits", "window", "low", "next"], {
        "put": ["packet"], "send": ["room"], "has_piece": ["room"], "take_status": ["upto", "missing"],
        "tick": [], "unconfirmed": [], "waiting": [], "is_idle": [],
    })},
    "receiver": {"Receiver": (["bits"], ["bits", "low"], {
        "take": ["piece"], "is_due": [], "report": ["most"], "status": ["room"], "kept": [],
    })},
    "links": {"Link": (["bits", "window"], ["sender", "receiver"], {
        "put": ["packet"], "send": ["room"], "has_something": ["room"], "take": ["piece"], "confirmed": [],
        "tick": [], "is_idle": [],
    })},
    "upper": {
        "UpperSender": (["bits"], [], {
            "may_add": [], "add": ["packet"], "next_count": [], "base": [], "unconfirmed": [], "confirm": ["count"],
            "take_report": ["first", "later"],
        }),
        "UpperReceiver": (["bits"], [], {
            "first_missing": [], "take": ["short", "packet"], "take_count": ["count", "packet"], "report": [],
            "held": [],
        }),
    },
    "shares": {"Shares": (["promises", "weights", "units"], [], {
        "give": ["waiting"], "balances": [], "given": [], "place": [],
    })},
    "bills": {
        "Meter": ([], [], {
            "add": ["bearer", "way", "size"], "metered": ["bearer", "way"], "write": [], "last": [],
            "take": ["serial"], "is_settled": [],
        }),
        "Biller": ([], [], {"take": ["letter"], "bill": ["bearer", "way"]}),
    },
    "cells": {
        "End": (["stay", "way", "link_bits", "count_bits", "shares"], [], {
            "add": ["bearer", "count", "packet"], "send": ["room"], "take": ["piece", "expected"], "confirmed": [],
            "tick": [], "is_idle": [],
        }),
        "Row": ([], [], {"send": ["letter"], "waiting": [], "arrive": []}),
        "CellEnd": (["end", "told"], ["end"], {"take_letter": ["letter"], "take_piece": ["piece"], "expected": []}),
        "Anchor": (["bearers", "count_bits"], ["meter"], {
            "put": ["bearer", "packet"], "begin_stay": ["told"], "take_letter": ["letter", "stay"], "out": ["bearer"],
            "unconfirmed": ["bearer"],
        }),
    },
    "air": {"Air": ([], [], {
        "send": ["piece"], "arrive": [], "lose": [], "double": [], "pieces": [], "stop": [],
    })},
    "world": {"World": (["bearers", "link_bits", "count_bits"], [], {
        "play": ["acts"], "settle": ["rounds"], "went_in": ["way", "bearer"], "came_out": ["way", "bearer"],
        "stay": [], "bill": ["way", "bearer"], "metered": ["way", "bearer"],
    })},
}
CONSTANTS = {
    "segments": {"MOST_BYTES": 200, "MOST_MISSING": 8}, "sender": {"PATIENCE": 4},
    "counts": {"MIN_BITS": 4, "MAX_BITS": 7}, "cells": {"MOST_BYTES": 196},
}
# An argument of each name, with which objects are made.
ARGUMENTS = {
    "bits": 4, "window": 8, "promises": [1], "weights": [1], "units": 8, "stay": 0, "way": 0, "link_bits": 4,
    "count_bits": 4, "shares": Shares([1], [1], 8), "end": None, "told": [(0, [])], "bearers": 1,
}


def module_of(name):
    return importlib.import_module("bearerwise." + name)


class InterfaceTest(unittest.TestCase):
    def test_each_function_stands_in_its_file_with_its_arguments(self):
        for name, functions in FUNCTIONS.items():
            for word, arguments in functions.items():
                function = getattr(module_of(name), word)
                self.assertTrue(inspect.isfunction(function), msg=word)
                self.assertEqual(function.__module__, "bearerwise." + name)
                self.assertEqual(list(inspect.signature(function).parameters), arguments, msg=word)

    def test_each_error_stands_in_its_file(self):
        for word in ERRORS:
            kind = getattr(module_of("errors"), word)
            self.assertTrue(inspect.isclass(kind), msg=word)
            self.assertEqual(kind.__module__, "bearerwise.errors")

    def test_each_class_stands_in_its_file_with_its_own_methods(self):
        for name, classes in CLASSES.items():
            for word, (arguments, fields, methods) in classes.items():
                kind = vars(module_of(name))[word]
                self.assertTrue(inspect.isclass(kind), msg=word)
                self.assertEqual(kind.__module__, "bearerwise." + name)
                self.assertEqual(list(inspect.signature(kind).parameters), arguments, msg=word)
                made = kind(*[ARGUMENTS[argument] for argument in arguments])
                for field in fields:
                    self.assertIn(field, vars(made), msg=word)
                for method, told in methods.items():
                    self.assertIn(method, vars(kind), msg=word)
                    self.assertEqual(list(inspect.signature(getattr(made, method)).parameters), told, msg=method)

    def test_the_constants(self):
        for name, constants in CONSTANTS.items():
            for word, value in constants.items():
                self.assertEqual(vars(module_of(name))[word], value, msg=word)


if __name__ == "__main__":
    unittest.main()
