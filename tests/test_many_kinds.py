"""Tests of kinds, papers, kinds by pairs and strikes that are asked for many times over: points [12] to [16] and [18]."""

import random
import unittest
from collections import Counter
from itertools import combinations
from unittest import mock

from drawn import anyhow, turned, upward
from growthkinds import webs
from growthkinds.families import Family
from growthkinds.kinds import check, kind, no_higher, paper
from growthkinds.links import double_word, link_word, links
from growthkinds.orders import all_pairs, kind_by
from growthkinds.second import kind_too
from growthkinds.strikes import binding, fewest, struck

STAIRS = ((1, 1, 0, 0), (0, 1, 1, 0), (0, 0, 1, 1), (0, 0, 0, 1))
SQUARE = ((1, 0, 0), (0, 1, 0), (0, 0, 1))
WIDE = ((1, 0, 0, 0), (0, 1, 0, 0), (0, 0, 1, 0), (0, 0, 0, 1))
STILL = ((0, 0, 0, 0),) * 4
KINDS = [("nil",), ("power", 0), ("power", 1), ("power", 2), ("power", 3), ("factor",)]


def few_entries(draw, many):
    """Draw a table with at most as many entries above 0 as there are places."""
    table = [[0] * many for _ in range(many)]
    for _ in range(draw.randrange(many + 1)):
        table[draw.randrange(many)][draw.randrange(many)] = draw.choice((1, 1, 1, 2, 9))
    return table


def entries_upward(draw, many):
    """Draw a table whose entries go upward, or stay."""
    return upward(draw, many, draw.choice((0.2, 0.5, 0.8)))


def map_of_places(draw, many):
    """Draw a table with a 1 in each row, and nothing else."""
    goals = [draw.randrange(many) for _ in range(many)] if draw.random() < 0.6 else draw.sample(range(many), many)
    return [[int(goal == j) for j in range(many)] for goal in goals]


def any_entries(draw, many):
    """Draw a table with entries anywhere."""
    return anyhow(draw, many, draw.choice((0.2, 0.5, 0.7, 0.85)))


SHAPES = (few_entries, entries_upward, map_of_places, any_entries)


def families_of(shape, seed, count):
    """Draw so many families of one to three tables of a shape and of one to four places, the same ones at each run."""
    draw = random.Random(seed)
    families = []
    for _ in range(count):
        many = draw.choice((1, 2, 3, 3, 4, 4, 4))
        order = draw.sample(range(many), many)
        families.append(Family([turned(shape(draw, many), order) for _ in range(draw.randrange(1, 4))]))
    return families


def filled(family):
    """List the triples of the entries above 0."""
    return [(number, row, place) for number, table in enumerate(family.tables) for row, entries in enumerate(table)
            for place, entry in enumerate(entries) if entry > 0]


class NamedTest(unittest.TestCase):
    """The inputs that were told to take long."""

    def test_fewest(self):
        stairs = Family([STAIRS])
        self.assertIsNone(fewest(stairs, ("power", 0)))
        self.assertEqual(fewest(stairs, ("power", 1)), ((0, 1, 2),))
        self.assertEqual(fewest(stairs, ("power", 2)), ((0, 0, 0),))
        self.assertEqual(fewest(stairs, ("power", 3)), ())
        self.assertIsNone(fewest(stairs, ("nil",)))
        self.assertIsNone(fewest(Family([((1, 2, 0), (0, 1, 1), (0, 0, 1))]), ("nil",)))
        self.assertIsNone(fewest(Family([SQUARE, SQUARE]), ("nil",)))

    def test_binding(self):
        cells = ((0, 0, 0), (0, 0, 1), (0, 1, 1), (0, 1, 2), (0, 2, 2), (0, 2, 3), (0, 3, 3))
        self.assertEqual(binding(Family([STAIRS])), cells)

    def test_kind_by(self):
        two = Family([((1, 1, 0), (0, 1, 0), (0, 0, 1)), ((1, 0, 0), (0, 1, 1), (0, 0, 1))])
        self.assertEqual(kind_by(two, ((0, 0), (0, 1), (1, 0), (1, 1))), ("power", 2))
        self.assertEqual(kind_by(Family([STAIRS, WIDE, STILL]), ((0, 0), (1, 2))), ("power", 3))

    def test_kind_and_paper_and_links(self):
        stairs = Family([STAIRS])
        self.assertEqual(kind(stairs), ("power", 3))
        self.assertEqual(check(stairs, paper(stairs)), "power")
        self.assertEqual(paper(stairs)[:2], ("power", 3))
        self.assertEqual(links(stairs), ((0, 1), (0, 2), (0, 3), (1, 2), (1, 3), (2, 3)))


class ManyFamiliesTest(unittest.TestCase):

    def each(self, seed, count, look):
        """Look at so many families of each shape."""
        for shape in SHAPES:
            for family in families_of(shape, seed, count):
                with self.subTest(shape=shape.__name__, tables=family.tables):
                    look(shape, family)

    def test_both_kinds_are_the_same(self):
        seen = Counter()

        def look(shape, family):
            self.assertEqual(kind(family), kind_too(family))
            seen[shape, kind(family)] += 1

        self.each(201, 1500, look)
        for told in KINDS:
            if told not in (("power", 2), ("power", 3)):
                self.assertGreater(seen[any_entries, told], 5, told)
            # What goes upward, or stays by 1, doubles nowhere.
            self.assertIs(seen[entries_upward, told] > 20, told != ("factor",), told)
            # A power above 0 takes more than a few entries.
            self.assertIs(seen[few_entries, told] > 20, told in (("nil",), ("power", 0), ("factor",)), told)
            self.assertIs(seen[map_of_places, told] > 0, told == ("power", 0), told)

    def test_told_papers_are_of_the_kind(self):

        def look(_, family):
            told = kind(family)
            shown = paper(family)
            self.assertEqual(check(family, shown), told[0])
            self.assertEqual(shown[1:2] if told[0] == "power" else (), told[1:])

        self.each(202, 1000, look)

    def test_by_all_pairs_it_is_the_kind(self):

        def look(_, family):
            self.assertEqual(kind_by(family, all_pairs(family)), kind(family))

        self.each(203, 1000, look)

    def test_links_are_the_pairs_that_have_a_word(self):

        def look(_, family):
            places = range(family.many)
            pairs = [(i, j) for i in places for j in places if link_word(family, i, j) is not None]
            self.assertEqual(links(family), tuple(pairs))

        self.each(204, 250, look)

    def test_what_doubles_grows_by_a_factor(self):

        def look(_, family):
            words = [double_word(family, place) for place in range(family.many)]
            self.assertIs(any(word is not None for word in words), kind(family) == ("factor",))

        self.each(205, 300, look)

    def test_fewest_by_trying_all_of_at_most_two(self):
        counts = Counter()

        def look(_, family):
            lots = [cells for count in range(3) for cells in combinations(filled(family), count)]
            kinds = {cells: kind(struck(family, cells)) for cells in lots[:250]}
            for wanted in KINDS:
                first = next((cells for cells in kinds if no_higher(kinds[cells], wanted)), None)
                if first is not None or len(kinds) == len(lots):
                    self.assertEqual(fewest(family, wanted), first)
                    counts[wanted[0], None if first is None else len(first)] += 1

        self.each(206, 60, look)
        for wanted in ("nil", "power"):
            for count in (0, 1, 2, None):
                self.assertGreater(counts[wanted, count], 5, (wanted, count))

    def test_binding_by_striking_each_entry(self):
        seen = Counter()

        def look(_, family):
            now = kind(family)
            wanted = [cell for cell in filled(family) if kind(struck(family, (cell,))) != now]
            self.assertEqual(binding(family), tuple(wanted))
            seen[now[0], len(wanted) > 0] += 1

        self.each(207, 200, look)
        self.assertEqual(seen["nil", True], 0)
        for told in ("power", "factor"):
            self.assertGreater(min(seen[told, True], seen[told, False]), 5)


class HowMuchIsDoneTest(unittest.TestCase):
    """What is asked for is not found by trying all that there is."""

    def made(self, call, *args):
        """Count the webs that a call makes."""
        with mock.patch.object(webs, "Web", wraps=webs.Web) as made:
            call(*args)
        return made.call_count

    def test_how_many_webs_are_made(self):
        dense = Family([tuple(tuple((3 * i + 5 * j + 7 * k) % 9 + 1 for j in range(4)) for i in range(4)) for k in range(3)])
        self.assertEqual(self.made(kind, Family([STAIRS])), 1)
        self.assertEqual(self.made(paper, Family([STAIRS])), 1)
        self.assertEqual(self.made(links, Family([STAIRS])), 1)
        self.assertLessEqual(self.made(binding, Family([STAIRS])), 8)
        self.assertLessEqual(self.made(fewest, Family([STAIRS]), ("power", 0)), 25)
        self.assertLessEqual(self.made(fewest, Family([SQUARE, SQUARE]), ("nil",)), 6)
        for wanted in KINDS[:-1]:
            self.assertLessEqual(self.made(fewest, dense, wanted), 50)
