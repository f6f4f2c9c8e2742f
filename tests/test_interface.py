"""Tests that the interface exists as written: names, arguments, and the files in which they are defined."""

import ast
import importlib
import inspect
import pathlib
import unittest

PACKAGE = pathlib.Path(__file__).resolve().parent.parent / "growthkinds"

# What is listed under each file: a function or class, and what it is called with.
LISTED = {
    "errors": {
        "BadTables": ["place"],
        "BadWord": ["value"],
        "BadNumber": ["value"],
        "BadKind": ["value"],
        "BadPairs": ["value"],
        "BadPaper": ["place"],
        "BadText": ["line"],
        "Grows": ["paper"],
        "TooMany": ["most"],
    },
    "families": {"Family": ["tables"]},
    "products": {"is_word": ["family", "thing"], "product": ["family", "word"], "size": ["family", "word"]},
    "links": {
        "leads": ["family", "one", "other"],
        "join": ["family", "one", "other"],
        "links": ["family"],
        "link_word": ["family", "one", "other"],
        "double_word": ["family", "one"],
    },
    "kinds": {
        "kind": ["family"],
        "paper": ["family"],
        "check": ["family", "thing"],
        "no_higher": ["one", "other"],
    },
    "lists": {"all_products": ["family"], "sizes_of": ["family"]},
    "noughts": {
        "made": ["family", "number", "lot"],
        "nought_word": ["family"],
        "lots_made": ["family"],
        "nought_paper": ["family"],
        "is_closed": ["family", "thing"],
        "is_nought_paper": ["family", "thing"],
    },
    "sizes": {"greatest": ["family", "length"], "least": ["family", "length"], "average": ["family", "length"]},
    "orders": {
        "goes_by": ["family", "pairs", "word"],
        "kind_by": ["family", "pairs"],
        "longest_by": ["family", "pairs"],
        "all_pairs": ["family"],
    },
    "strikes": {"struck": ["family", "cells"], "fewest": ["family", "kind"], "binding": ["family"]},
    "second": {"kind_too": ["family"]},
    "bench": {"Bench": ["family"], "tried": ["bench", "function"]},
    "texts": {"family_text": ["family"], "read_family": ["text"], "word_text": ["family", "word"]},
}
METHODS = {
    ("families", "Family"): {
        "__len__": [],
        "__eq__": ["other"],
        "with_table": ["table"],
        "without_table": ["number"],
        "changed": ["number", "row", "place", "entry"],
    },
    ("bench", "Bench"): {
        "__len__": [],
        "__eq__": ["other"],
        "kind": [],
        "table": ["table"],
        "drop": ["number"],
        "entry": ["number", "row", "place", "entry"],
        "undo": ["many"],
        "trial": [],
    },
}


def defined(name):
    """Find the names of the functions and classes that a file defines."""
    rows = ast.parse((PACKAGE / f"{name}.py").read_text()).body
    return [row.name for row in rows if isinstance(row, (ast.FunctionDef, ast.ClassDef))]


class InterfaceTest(unittest.TestCase):

    def test_names_and_arguments(self):
        for file, listed in LISTED.items():
            module = importlib.import_module(f"growthkinds.{file}")
            for name, wanted in listed.items():
                with self.subTest(file=file, name=name):
                    self.assertEqual(list(inspect.signature(getattr(module, name)).parameters), wanted)

    def test_arguments_have_no_default_values(self):
        for file, listed in LISTED.items():
            module = importlib.import_module(f"growthkinds.{file}")
            for name in listed:
                for parameter in inspect.signature(getattr(module, name)).parameters.values():
                    with self.subTest(file=file, name=name, parameter=parameter.name):
                        self.assertIs(parameter.default, inspect.Parameter.empty)
                        self.assertIs(parameter.kind, inspect.Parameter.POSITIONAL_OR_KEYWORD)

    def test_each_is_defined_in_its_file(self):
        for file, listed in LISTED.items():
            for name in listed:
                with self.subTest(file=file, name=name):
                    self.assertIn(name, defined(file))
        self.assertIn("GrowthError", defined("errors"))

    def test_methods_stand_in_the_class_itself(self):
        for (file, name), methods in METHODS.items():
            module = importlib.import_module(f"growthkinds.{file}")
            for method, wanted in methods.items():
                with self.subTest(name=name, method=method):
                    function = vars(getattr(module, name))[method]
                    self.assertEqual(list(inspect.signature(function).parameters)[1:], wanted)

    def test_default_values_of_methods(self):
        for (file, name), methods in METHODS.items():
            module = importlib.import_module(f"growthkinds.{file}")
            for method in methods:
                for parameter in inspect.signature(vars(getattr(module, name))[method]).parameters.values():
                    with self.subTest(name=name, method=method, parameter=parameter.name):
                        wanted = 1 if (method, parameter.name) == ("undo", "many") else inspect.Parameter.empty
                        self.assertEqual(parameter.default, wanted)
                        self.assertIs(parameter.kind, inspect.Parameter.POSITIONAL_OR_KEYWORD)

    def test_the_property_stands_in_the_class_itself(self):
        self.assertIsInstance(vars(importlib.import_module("growthkinds.bench").Bench)["family"], property)
