"""Tests of lists of products and sizes that are asked for many times over: points [11], [13] and [15]."""

import random
import unittest
from collections import Counter
from unittest import mock

from drawn import one_at_most, strictly_upward, turned
from growthkinds import lists, sizes
from growthkinds.errors import BadNumber, Grows, TooMany
from growthkinds.families import Family
from growthkinds.kinds import kind, no_higher
from growthkinds.lists import all_products, sizes_of
from growthkinds.products import product, size
from growthkinds.sizes import average, greatest, least

ROUND = ((0, 1, 0, 0), (0, 0, 1, 0), (0, 0, 0, 1), (1, 0, 0, 0))
SWAP = ((0, 1, 0, 0), (1, 0, 0, 0), (0, 0, 1, 0), (0, 0, 0, 1))
MERGE = ((1, 0, 0, 0), (0, 1, 0, 0), (0, 0, 1, 0), (1, 0, 0, 0))
DROP = ((1, 0, 0, 0), (0, 1, 0, 0), (0, 0, 1, 0), (0, 0, 0, 0))
UNIT = ((1, 0), (0, 1))
SIDE = ((1, 1), (0, 1))
FIVES = Family([((5,),), ((5,),), ((0,),)])
SIDES = Family([SIDE, UNIT, UNIT])
# The 256 maps of four places into themselves.
MAPS = Family([ROUND, SWAP, MERGE])
# More than 400 maps of some of the places.
PARTS = Family([ROUND, MERGE, DROP])
# Rows (3, 1, 1, 1) and the like, so that there are nearly half as many rows as products.
ROWS = Family([
    ((0, 0, 0, 0), (0, 0, 0, 1), (3, 1, 1, 1), (1, 0, 0, 0)),
    ((0, 0, 0, 1), (1, 0, 0, 0), (0, 0, 0, 0), (0, 1, 0, 0)),
    ((0, 0, 0, 1), (1, 0, 0, 0), (0, 0, 0, 1), (1, 0, 0, 0)),
])
FULL = [tuple(tuple((3 * i + 5 * j + 7 * k + i * j) % 9 + 1 for j in range(4)) for i in range(4)) for k in range(3)]


def products_of_words(family, most):
    """Map all products of words, as product tells them, to shortest words; None if there are more than so many."""
    words = {product(family, ()): ()}
    layer = [()]
    while layer and len(words) <= most:
        later = []
        for word in [word + (number,) for word in layer for number in range(len(family))]:
            if product(family, word) not in words:
                words[product(family, word)] = word
                later.append(word)
        layer = later
    return words if len(words) <= most else None


def rows_of(family):
    """Find all rows that products of a family have, each entry by itself."""
    many = range(family.many)
    rows = {tuple(int(i == j) for j in many) for i in many}
    waiting = list(rows)
    while waiting:
        row = waiting.pop()
        for table in family.tables:
            result = tuple(sum(row[i] * table[i][j] for i in many) for j in many)
            if result not in rows:
                rows.add(result)
                waiting.append(result)
    return rows


def drawn_families(seed, count):
    """Draw so many families that have finitely many products, the same ones at each run."""
    draw = random.Random(seed)
    families = []
    while len(families) < count:
        many = draw.choice((1, 2, 3, 3, 4, 4))
        shape = draw.choice((one_at_most, one_at_most, one_at_most, strictly_upward, nearly_a_map))
        order = draw.sample(range(many), many)
        tables = [turned(shape(draw, many, draw.choice((0.1, 0.4, 0.7))), order) for _ in range(draw.randrange(1, 4))]
        family = Family(tables)
        if no_higher(kind(family), ("power", 0)):
            families.append(family)
    return families


def nearly_a_map(draw, many, nought):
    """Draw a table with at most one 1 in each row, and a few entries beside."""
    table = one_at_most(draw, many, nought)
    for row in table:
        if draw.random() < 0.25:
            row[draw.randrange(many)] = draw.choice((1, 1, 2, 5, 9))
    return table


class NamedTest(unittest.TestCase):
    """The inputs that were told to take long."""

    def test_all_maps_of_four_places(self):
        told = all_products(MAPS)
        self.assertEqual(len(told), 256)
        ones = tuple(tuple(int(i == j) for j in range(4)) for i in range(4))
        self.assertEqual(told, tuple(sorted((a, b, c, d) for a in ones for b in ones for c in ones for d in ones)))
        self.assertEqual(sizes_of(MAPS), (4,))

    def test_more_than_400(self):
        self.assertIsNone(products_of_words(PARTS, 400))
        for call in (all_products, sizes_of):
            with self.assertRaises(TooMany) as caught:
                call(PARTS)
            self.assertEqual(caught.exception.most, 400)

    def test_greatest(self):
        self.assertEqual(greatest(FIVES, 6), (15625, (0, 0, 0, 0, 0, 0)))
        self.assertEqual(least(FIVES, 6), (0, (0, 0, 0, 0, 0, 2)))
        self.assertEqual(average(FIVES, 6), (10 ** 6, 729))
        self.assertEqual(greatest(SIDES, 6), (8, (0, 0, 0, 0, 0, 0)))
        self.assertEqual(least(SIDES, 6), (2, (1, 1, 1, 1, 1, 1)))
        self.assertEqual(average(SIDES, 6), (4, 1))


class ManyFamiliesTest(unittest.TestCase):

    def test_all_products_of_words(self):
        seen = Counter()
        for family in drawn_families(301, 1200) + [MAPS, ROWS, PARTS]:
            with self.subTest(tables=family.tables):
                words = products_of_words(family, 400)
                if words is None:
                    for call in (all_products, sizes_of):
                        with self.assertRaises(TooMany):
                            call(family)
                else:
                    self.assertEqual(all_products(family), tuple(sorted(words)))
                    self.assertEqual(sizes_of(family), tuple(sorted({size(family, word) for word in words.values()})))
                seen[family.many, None if words is None else len(words) > 50] += 1
        for many in (1, 2, 3, 4):
            self.assertGreater(seen[many, False], 20)
        self.assertGreater(seen[3, True], 0)
        self.assertGreater(seen[4, True], 20)
        self.assertGreater(seen[4, None], 0)

    def test_what_grows_is_refused_ahead_of_too_many(self):
        # Beside the maps there would be too many products in any case.
        for beside in (((1, 1, 0, 0),) + DROP[1:], ((2, 0, 0, 0),) + DROP[1:]):
            for call in (all_products, sizes_of):
                with self.assertRaises(Grows):
                    call(Family([ROUND, SWAP, beside]))

    def test_sizes_of_the_words_of_a_length(self):
        for family in drawn_families(302, 60) + [FIVES, SIDES, MAPS, ROWS, Family(FULL)]:
            for length in range(5):
                words = [()]
                for _ in range(length):
                    words = [word + (number,) for word in words for number in range(len(family))]
                told = {word: size(family, word) for word in words}
                most, fewest = max(told.values()), min(told.values())
                with self.subTest(tables=family.tables, length=length):
                    self.assertEqual(greatest(family, length), (most, min(w for w in words if told[w] == most)))
                    self.assertEqual(least(family, length), (fewest, min(w for w in words if told[w] == fewest)))
                    above, below = average(family, length)
                    self.assertEqual(above * len(words), below * sum(told.values()))


class HowMuchIsDoneTest(unittest.TestCase):
    """Rows are multiplied by tables, and each only where it is wanted."""

    def multiplied(self, module, call, *args):
        """Count the rows that a call multiplies."""
        count = Counter()

        def counting(row_by):
            def counted(row, columns):
                count[row] += 1
                return row_by(row, columns)
            return counted

        with mock.patch.object(module, "ROWS_BY", [counting(row_by) for row_by in module.ROWS_BY]):
            try:
                call(*args)
            except TooMany:
                pass
        return count

    def test_each_row_of_products_once_by_each_table(self):
        for call in (all_products, sizes_of):
            for family in (MAPS, ROWS, PARTS):
                count = self.multiplied(lists, call, family)
                self.assertEqual(set(count.values()), {3})
                self.assertEqual(set(count), rows_of(family))

    def test_sums_of_half_a_word(self):
        for family in (FIVES, SIDES, MAPS, Family(FULL)):
            for call in (greatest, least):
                self.assertLessEqual(sum(self.multiplied(sizes, call, family, 6).values()), 39 + 39 + 27)
            self.assertEqual(sum(self.multiplied(sizes, average, family, 6).values()), 6)
        # There are but two sums of halves of these, and four.
        self.assertLessEqual(sum(self.multiplied(sizes, greatest, FIVES, 6).values()), 40)
        self.assertLessEqual(sum(self.multiplied(sizes, greatest, SIDES, 6).values()), 50)

    def test_nothing_for_no_length(self):
        for call in (greatest, least, average):
            with self.assertRaises(BadNumber):
                self.multiplied(sizes, call, MAPS, 7)
