"""Tests of what holds for all calls of functions over families: points [0] to [4]."""

import unittest

from drawn import by_hand, drawn
from growthkinds.bench import Bench, tried
from growthkinds.errors import (
    BadKind, BadNumber, BadPairs, BadPaper, BadTables, BadText, BadWord, GrowthError, Grows, TooMany,
)
from growthkinds.families import Family
from growthkinds.kinds import check, kind, no_higher, paper
from growthkinds.links import double_word, join, leads, link_word, links
from growthkinds.lists import all_products, sizes_of
from growthkinds.noughts import is_closed, is_nought_paper, lots_made, made, nought_paper, nought_word
from growthkinds.orders import all_pairs, goes_by, kind_by, longest_by
from growthkinds.products import is_word, product, size
from growthkinds.second import kind_too
from growthkinds.sizes import average, greatest, least
from growthkinds.strikes import binding, fewest, struck
from growthkinds.texts import family_text, read_family, word_text

NAMED = (BadKind, BadNumber, BadPairs, BadPaper, BadTables, BadText, BadWord, Grows, TooMany)
NIL_PAPER = ("nil", (3, 2, 1, 0))


def calls(tables):
    """List calls for a family: the function, and its arguments by their names."""
    return calls_on_growth(tables) + calls_on_words(tables) + calls_on_deeds(tables)


def calls_on_growth(tables):
    """List calls of links.py, kinds.py and lists.py."""
    last = len(tables[0]) - 1
    many = [(call, {"family": Family(tables)}) for call in (links, kind, paper, all_products, sizes_of)]
    for call in (leads, join, link_word):
        for one, other in ((0, last), (last, 0), (0, 0), (last, last + 1), (-1, True), (0, None)):
            many.append((call, {"family": Family(tables), "one": one, "other": other}))
    many += [(double_word, {"family": Family(tables), "one": one}) for one in (0, last, last + 1, "0")]
    for thing in (paper(Family(tables)), NIL_PAPER, ("factor", 0, (0, 0)), ("power", 0, (), ()), None):
        many.append((check, {"family": Family(tables), "thing": thing}))
    for one, other in ((("nil",), ("power", 2)), (("factor",), kind(Family(tables))), ("nil", ["power", 1])):
        many.append((no_higher, {"one": one, "other": other}))
    return many


def calls_on_words(tables):
    """List calls of products.py, noughts.py, sizes.py and orders.py."""
    last = len(tables) - 1
    many = [(call, {"family": Family(tables)}) for call in (nought_word, lots_made, nought_paper, all_pairs)]
    for word in ((), (0, last, 0), (last + 1,), [0], (0,) * 401):
        many += [(call, {"family": Family(tables), "word": word}) for call in (product, size)]
        many.append((is_word, {"family": Family(tables), "thing": word}))
        many += [(goes_by, {"family": Family(tables), "pairs": pairs, "word": word}) for pairs in ((), ((0, last),), ((9, 9),))]
    for number, lot in ((0, ()), (last, (0,)), (last + 1, (0, 0)), (0, (0, 0)), (0, [0]), (True, None)):
        many.append((made, {"family": Family(tables), "number": number, "lot": lot}))
    for thing in (nought_paper(Family(tables)), lots_made(Family(tables)), ((0,), (0, 1)), ("word", (0, 0)), None):
        many += [(call, {"family": Family(tables), "thing": thing}) for call in (is_closed, is_nought_paper)]
    for length in (0, 1, 2, 3, 7, -1, True, "2"):
        many += [(call, {"family": Family(tables), "length": length}) for call in (greatest, least, average)]
    for pairs in ((), ((last, 0),), all_pairs(Family(tables)), ((0, 0), (0, 0)), [(0, 0)]):
        many += [(call, {"family": Family(tables), "pairs": pairs}) for call in (kind_by, longest_by)]
    return many


def calls_on_deeds(tables):
    """List calls of families.py, strikes.py, second.py, texts.py and bench.py, the last three by the deeds they do."""
    last = len(tables) - 1
    many = [(call, {"family": Family(tables)}) for call in (kind_too, family_text, binding)]
    for cells in ((), ((0, 0, 0),), ((last, 0, 0), (last + 1, 0, 0)), [(0, 0, 0)], ((0, 0, 0), (0, 0, 0))):
        many.append((struck, {"family": Family(tables), "cells": cells}))
    if sum(entry > 0 for table in tables for row in table for entry in row) < 13:
        many += [(fewest, {"family": Family(tables), "kind": told}) for told in (("nil",), ("power", 0), ("factor",))]
    many.append((fewest, {"family": Family(tables), "kind": ("power", True)}))
    many += [(read_family, {"text": text}) for text in (family_text(Family(tables)), family_text(Family(tables))[1:], None)]
    for word in ((), (0, last), (last + 1,), [0], None):
        many.append((word_text, {"family": Family(tables), "word": word}))
    for thing in (tables, list(tables), tables * 4, None):
        many += [(call, {"tables": thing}) for call in (Family, lambda tables: Bench(family=Family(tables)))]
    many += [(call, {"table": table}) for call in (Family(tables).with_table, led(tables, "table")) for table in (tables[0], 0)]
    many += [(call, {"number": number}) for call in (Family(tables).without_table, led(tables, "drop")) for number in (0, 9)]
    for number, row, place, entry in ((last, 0, 0, 9), (0, 0, 0, 0), (last + 1, -1, 9, 10), (0, 0, 9, 10), (0, 0, 0, "1")):
        for call in (Family(tables).changed, led(tables, "entry")):
            many.append((call, {"number": number, "row": row, "place": place, "entry": entry}))
    return many + [(led(tables, "undo"), {"many": many}) for many in (1, 2, 3, True)] + [(led(tables, "undo"), {})]


def led(tables, name):
    """Give a function that does a deed in a trial on a bench, and tells what the bench is then."""
    bench = Bench(Family(tables))
    bench.entry(entry=1, place=0, row=0, number=0)
    bench.entry(0, 0, 0, tables[0][0][0])

    def lead(*args, **named):
        getattr(bench, name)(*args, **named)
        return bench.family, len(bench), bench.kind()

    return lambda *args, **named: tried(function=lambda _: lead(*args, **named), bench=bench)


def told(call, named, by_position=False, turned=False):
    """Make a call, and give what it returned, or what it raised with its field."""
    names = list(named)[::-1] if turned else list(named)
    try:
        if by_position:
            return ("returned", call(*named.values()))
        return ("returned", call(**{name: named[name] for name in names}))
    except NAMED as error:
        return ("raised", type(error), vars(error))


class CallsTest(unittest.TestCase):

    def families(self):
        return [tables for tables, _ in by_hand()] + drawn(51, 60)

    def test_by_names_in_another_order(self):
        for tables in self.families():
            for call, named in calls(tables):
                with self.subTest(tables=tables, call=str(call), named=str(named)[:200]):
                    wanted = told(call, named, by_position=True)
                    self.assertEqual(told(call, named), wanted)
                    self.assertEqual(told(call, named, turned=True), wanted)

    def test_equal_calls_with_others_in_between(self):
        many = [(call, named) for tables in self.families() for call, named in calls(tables)]
        first = [told(call, named) for call, named in many]
        second = [told(call, named) for call, named in many[::-1]][::-1]
        self.assertEqual(first, second)
        again = [(call, named) for tables in self.families() for call, named in calls(tables)]
        self.assertEqual([told(call, named) for call, named in again], first)

    def test_families_stay_as_they_were(self):
        for tables in self.families():
            for call, named in calls(tables):
                told(call, named)
                if "family" in named:
                    family = named["family"]
                    self.assertEqual((family.tables, family.many, len(family)), (tables, len(tables[0]), len(tables)))
                    self.assertEqual(set(vars(family)), {"tables", "many"})

    def test_families_of_lists(self):
        for tables in self.families():
            given = list(tables)
            family = Family(given)
            given.clear()
            self.assertEqual(paper(family), paper(Family(tables)))
            self.assertEqual(links(family), links(Family(tables)))

    def test_whether_is_told_by_true_or_false(self):
        for tables in self.families():
            family = Family(tables)
            for one in range(family.many):
                for other in range(family.many):
                    self.assertIs(type(leads(family, one, other)), bool)
            for thing in (nought_paper(family), lots_made(family), (), 0):
                self.assertIs(type(is_closed(family, thing)), bool)
                self.assertIs(type(is_nought_paper(family, thing)), bool)
                self.assertIs(type(is_word(family, thing)), bool)
            self.assertIs(type(goes_by(family, (), (0, 0))), bool)
            self.assertIs(type(goes_by(family, all_pairs(family), (0, 0))), bool)
        self.assertIs(type(no_higher(("nil",), ("factor",))), bool)
        self.assertIs(type(no_higher(("factor",), ("nil",))), bool)

    def test_refusals_stand_under_growth_error(self):
        for error in (BadKind, BadNumber, BadPairs, BadPaper, BadTables, BadText, BadWord):
            self.assertTrue(issubclass(error, GrowthError))
