"""The interface: its names and arguments stand as written, each in the file under which it is listed."""

import importlib
import inspect
import unittest

FUNCTIONS = {
    "plans": {"is_plan": "thing", "how_many": "plan", "patience_of": "plan person", "queue_at": "plan moment",
              "left_at": "plan moment"},
    "lasts": {"last_of": "plan person", "went_past": "plan person moment", "who_ahead": "plan one other",
              "unsafe_at": "plan moment", "refuser_at": "plan moment"},
    "places": {"place_of": "plan moment person", "person_at": "plan moment place"},
    "windows": {"window_of": "plan person", "windows_around": "plan person", "is_around": "plan person thing"},
    "rounds": {"round_of": "plan", "passes_by": "plan moment"},
    "least": {"least_plan": "plan", "are_alike": "plan other", "alike_at": "plan other moment"},
    "orders": {"is_order": "thing", "least_patiences": "order", "barring": "order", "bars": "order thing",
               "rows_counted": "order most"},
    "line": {"line_of": "history"},
    "texts": {"show_plan": "plan", "read_plan": "text"},
}
CLASSES = {
    "line": {"Line": {"come": "self patience", "serve": "self", "undo": "self", "queue": "self", "left": "self",
                      "history": "self", "went_past": "self person", "__len__": "self"}},
    "desk": {"Desk": {"say": "self row"}},
}


def arguments_of(function):
    return " ".join(inspect.signature(function).parameters)


class Interface(unittest.TestCase):
    def test_functions(self):
        for file, functions in FUNCTIONS.items():
            module = importlib.import_module("comersline." + file)
            for name, arguments in functions.items():
                function = getattr(module, name)
                self.assertEqual((function.__module__, function.__name__), (module.__name__, name))
                self.assertEqual(arguments_of(function), arguments, name)

    def test_classes(self):
        for file, classes in CLASSES.items():
            module = importlib.import_module("comersline." + file)
            for name, methods in classes.items():
                kind = getattr(module, name)
                self.assertEqual((kind.__module__, kind.__name__), (module.__name__, name))
                self.assertEqual(arguments_of(kind), "")
                for method, arguments in methods.items():
                    self.assertEqual(arguments_of(vars(kind)[method]), arguments, method)


if __name__ == "__main__":
    unittest.main()
