"""The interface: its names, arguments and kinds of arguments, each in the file under which it is listed."""

import importlib
import inspect
import unittest

# Functions by their file, with their arguments; what stands behind a star is handed in by its name alone.
FUNCTIONS = {
    "formtexts": {"form_rows": "form", "read_form": "rows"},
    "walks": {"walked": "form answers"},
    "editions": {"led": "answers edition", "led_over": "answers editions"},
    "grids": {"grid_of": "box first second", "senders": "box first second * row column"},
    "fences": {
        "fits": "grid hidden table",
        "reach": "grid hidden * cell",
        "bound": "grid hidden * cell fence",
        "fences": "grid hidden * cell",
    },
    "hides": {
        "is_safe": "grid hidden * few width",
        "hidden_cells": "grid * few width",
        "told": "box first second * few width",
    },
    "texts": {"answers_row": "answers", "read_answers": "text"},
}

# Classes by their file, with the arguments of their methods; one of which no arguments are listed has None.
CLASSES = {
    "forms": {"Form": {"__init__": "rows", "outline": "", "names": "", "question": "name"}},
    "walks": {"Walk": None},
    "fills": {
        "Filling": {"__init__": "form", "walk": "", "put": "spot answer", "clear": "spot", "kept": "", "back": ""},
    },
    "editions": {"Edition": {"__init__": "number form * calls"}},
    "boxes": {
        "Box": {
            "__init__": "", "take": "event", "merge": "other", "edition": "", "form_now": "", "events": "",
            "clashes": "", "people": "", "stands": "who", "all_counted": "",
        },
    },
    "hides": {"Told": None},
    "book": {
        "Book": {
            "__init__": "* few width", "box": "", "take": "event", "merge": "box", "tell": "name first second",
            "names": "", "table": "name", "stale": "", "retell": "name", "drop": "name", "many": "", "back": "",
            "tried": "event first second",
        },
    },
    "desk": {"Desk": {"__init__": "* few width", "tell": "row"}},
}


def arguments(thing):
    """The arguments of a function or a method but the object itself, with a star ahead of those by name alone."""
    told, starred = [], False
    for name, argument in inspect.signature(thing).parameters.items():
        if argument.kind == argument.KEYWORD_ONLY and not starred:
            told.append("*")
            starred = True
        if name != "self":
            told.append(name)
    return " ".join(told)


class InterfaceTest(unittest.TestCase):
    def test_functions(self):
        for file, functions in FUNCTIONS.items():
            module = importlib.import_module("skiphall." + file)
            for name, wanted in functions.items():
                with self.subTest(file, name=name):
                    function = getattr(module, name)
                    self.assertTrue(inspect.isfunction(function))
                    self.assertEqual(function.__module__, module.__name__)
                    self.assertEqual(arguments(function), wanted)

    def test_classes(self):
        for file, classes in CLASSES.items():
            module = importlib.import_module("skiphall." + file)
            for name, methods in classes.items():
                with self.subTest(file, name=name):
                    kind = getattr(module, name)
                    self.assertTrue(inspect.isclass(kind))
                    self.assertEqual(kind.__module__, module.__name__)
                    for method, wanted in (methods or {}).items():
                        self.assertIn(method, vars(kind))
                        self.assertEqual(arguments(vars(kind)[method]), wanted)

    def test_calls_of_an_edition_are_none_if_they_are_not_handed_in(self):
        edition = importlib.import_module("skiphall.editions").Edition
        self.assertEqual(inspect.signature(edition).parameters["calls"].default, ())


if __name__ == "__main__":
    unittest.main()
