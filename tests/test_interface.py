"""The interface: its names stand in their files, with their arguments, under the package's name."""

import importlib
import inspect
import unittest

FUNCTIONS = {
    "programs": {"names": ["program"], "nexts": ["program", "place"], "row_at": ["program", "place"],
                 "is_way": ["program", "thing"]},
    "runs": {"told": ["program", "way", "functions"], "shape": ["run"]},
    "holders": {"holders": ["program", "way", "lot"]},
    "piles": {"ring": ["program"], "is_ring": ["program", "thing"], "is_closed": ["program", "thing"],
              "round_way": ["program", "ring", "times"], "fullest": ["program"], "greatest": ["program"],
              "shapes": ["program"]},
    "marks": {"vain_way": ["program", "place"], "surely": ["program"], "bounds": ["program"],
              "marked": ["program", "places"], "is_quiet": ["program"]},
    "texts": {"row_text": ["row"], "program_text": ["program"]},
    "reading": {"read_program": ["text"]},
    "journals": {"recovered": ["functions", "text"]},
    "books": {"book_names": ["book"], "book_row": ["book", "n", "place"], "as_book": ["program"], "put_in": ["book"]},
    "bookruns": {"book_told": ["book", "steps", "functions"], "book_shape": ["run"]},
    "booktexts": {"book_text": ["book"], "read_book": ["text"]},
    "passages": {"is_there": ["book", "head", "thing"], "is_back": ["book", "n", "thing"],
                 "row_holders": ["book", "rows", "lot"]},
    "bookrings": {"book_ring": ["book"], "is_book_ring": ["book", "thing"], "ring_steps": ["book", "ring", "times"]},
    "bookshapes": {"book_greatest": ["book"], "book_shapes": ["book"]},
    "ahead": {"worked_ahead": ["program", "way", "functions", "worker"]},
}
CLASSES = {
    "programs": {"Program": ["block"]},
    "runs": {"Run": ["program", "functions"]},
    "machine": {"Machine": ["program", "functions", "size"]},
    "sessions": {"Session": ["functions"]},
    "books": {"Book": ["blocks"]},
    "bookruns": {"BookRun": ["book", "functions"]},
}
METHODS = {
    ("programs", "Program"): {"__eq__": ["other"]},
    ("runs", "Run"): {"step": ["which"], "place": [], "way": [], "held": ["name"], "note": ["number"], "waiting": [],
                      "worked": [], "said": [], "back": [], "copy": []},
    ("machine", "Machine"): {"step": ["which"], "place": [], "way": [], "held": ["name"], "waiting": [], "worked": [],
                             "said": [], "cells": [], "collect": [], "collected": []},
    ("sessions", "Session"): {"do": ["row"], "held": ["name"], "note": ["number"], "waiting": [], "worked": [],
                              "said": [], "names": [], "drop": ["name"], "undo": [], "redo": [], "copy": [],
                              "journal": []},
    ("books", "Book"): {"__eq__": ["other"]},
    ("bookruns", "BookRun"): {"step": ["which"], "pile": [], "rows": [], "steps": [], "held": ["name"], "note": ["number"],
                              "waiting": [], "worked": [], "said": [], "back": [], "copy": []},
}


def module(name):
    return importlib.import_module("putoffpiles." + name)


def arguments(thing):
    return list(inspect.signature(thing).parameters)


class Interface(unittest.TestCase):
    def test_the_package_imports(self):
        for name in ("errors", *FUNCTIONS, *CLASSES):
            self.assertEqual(module(name).__name__, "putoffpiles." + name)

    def test_functions_are_defined_in_their_files(self):
        for file, listed in FUNCTIONS.items():
            for name, expected in listed.items():
                with self.subTest(file=file, name=name):
                    function = getattr(module(file), name)
                    self.assertTrue(inspect.isfunction(function))
                    self.assertEqual(function.__module__, "putoffpiles." + file)
                    self.assertEqual(arguments(function), expected)

    def test_classes_are_defined_in_their_files(self):
        for file, listed in CLASSES.items():
            for name, expected in listed.items():
                with self.subTest(file=file, name=name):
                    made = getattr(module(file), name)
                    self.assertTrue(inspect.isclass(made))
                    self.assertEqual(made.__module__, "putoffpiles." + file)
                    self.assertEqual(arguments(made), expected)

    def test_methods_are_defined_in_their_own_class(self):
        for (file, name), listed in METHODS.items():
            own = vars(getattr(module(file), name))
            for method, expected in listed.items():
                with self.subTest(name=name, method=method):
                    self.assertEqual(arguments(own[method])[1:], expected)


if __name__ == "__main__":
    unittest.main()
