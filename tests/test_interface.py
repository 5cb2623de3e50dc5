"""The names and arguments of the interface, each in the file that the document names."""

import importlib
import inspect
import unittest

FUNCTIONS = {
    "fields": {
        "field_bytes": ["widths"], "pack": ["widths", "values"], "unpack": ["widths", "data"],
    },
    "segments": {
        "data_piece": ["bits", "poll", "number", "part", "offset", "body"],
        "status_piece": ["bits", "upto", "missing"],
        "status_bytes": ["bits", "count"],
        "read_piece": ["bits", "piece"],
        "cut": ["bits", "poll", "number", "packet", "start", "stop", "room"],
    },
    "windows": {
        "window_size": ["bits"], "short": ["number", "bits"], "distance": ["base", "value", "bits"],
        "read_short": ["value", "base", "behind", "bits"],
        "play_numbers": ["bits", "window", "acts"], "fooling": ["bits"],
    },
}
CLASSES = {"errors": ["BearerError", "NotValid", "Broken"]}


def module_of(name):
    return importlib.import_module("bearerwise." + name)


class InterfaceTest(unittest.TestCase):
    def test_each_function_stands_in_its_file_with_its_arguments(self):
        for name, functions in FUNCTIONS.items():
            for word, arguments in functions.items():
                function = getattr(module_of(name), word)
                self.assertTrue(inspect.isfunction(function), msg=word)
                self.assertEqual(function.__module__, "bearerwise." + name)
                self.assertEqual(list(inspect.signature(function).parameters), arguments, msg=word)

    def test_each_class_stands_in_its_file(self):
        for name, words in CLASSES.items():
            for word in words:
                kind = getattr(module_of(name), word)
                self.assertTrue(inspect.isclass(kind), msg=word)
                self.assertEqual(kind.__module__, "bearerwise." + name)


if __name__ == "__main__":
    unittest.main()
