"""Tests that the kind is found by another way, too: points [12] to [15], and the interface under second.py."""

import ast
import pathlib
import unittest
from collections import Counter

import reckoning
from drawn import FACTOR, LEVEL, NIL, POWERS, by_hand, drawn
from growthkinds.families import Family
from growthkinds.kinds import kind
from growthkinds.second import kind_too
from samples import DOWN, SIDE, UP

PACKAGE = pathlib.Path(__file__).resolve().parent.parent / "growthkinds"
KINDS = [("nil",), ("power", 0), ("power", 1), ("power", 2), ("power", 3), ("factor",)]


def imported(name):
    """Find all files of the package from which a file imports, straight or by way of others."""
    found = set()
    for part in ast.parse((PACKAGE / f"{name}.py").read_text()).body:
        if isinstance(part, ast.ImportFrom) and part.module.startswith("growthkinds."):
            file = part.module.removeprefix("growthkinds.")
            found |= {file} | imported(file)
    return found


class KindTooTest(unittest.TestCase):

    def test_the_examples_of_the_document(self):
        self.assertEqual(kind_too(Family([((1, 3), (0, 1))])), ("power", 1))
        self.assertEqual(kind_too(Family([((0, 1), (0, 0)), ((0, 0), (2, 0))])), ("factor",))

    def test_each_kind_by_hand(self):
        for told in (NIL, LEVEL, FACTOR, [tables for _, tables in POWERS]):
            self.assertGreater(len(told), 5)
        for tables, wanted in by_hand():
            with self.subTest(tables=tables):
                told = kind_too(Family(tables))
                self.assertEqual(told, wanted)
                self.assertIs(type(told), tuple)
                self.assertEqual([type(part) for part in told], [str, int][:len(wanted)])

    def test_against_kind_over_drawn_families(self):
        seen = Counter()
        for tables in drawn(101, 4000):
            family = Family(tables)
            with self.subTest(tables=tables):
                self.assertEqual(kind_too(family), kind(family))
                seen[(len(tables[0]), kind(family))] += 1
        for many in range(1, 5):
            for at, told in enumerate(KINDS):
                if told[0] != "power" or told[1] < many:
                    with self.subTest(many=many, told=told):
                        self.assertGreater(seen[(many, told)], 0)

    def test_by_the_words_of_the_document(self):
        for tables in drawn(102, 300):
            with self.subTest(tables=tables):
                self.assertEqual(kind_too(Family(tables)), reckoning.kind_of(tables))

    def test_it_takes_nothing_from_the_first_way(self):
        first = {"kinds", "papers", "walks", "webs", "growth", "links", "lists", "orders", "strikes"}
        self.assertEqual(imported("second") & first, set())
        self.assertNotIn("second", imported("kinds"))

    def test_by_name(self):
        self.assertEqual(kind_too(family=Family([SIDE])), ("power", 1))
        self.assertEqual(kind_too(family=Family([UP, DOWN])), ("factor",))
