"""Tests of words, products and sizes: point [11], and the interface under products.py."""

import unittest
from itertools import product as tuples_of

from growthkinds.errors import BadWord, GrowthError
from growthkinds.families import Family
from growthkinds.products import is_word, product, size
from samples import DOWN, FOUR, PLAIN, ROUND, SIDE, TURN, UP, Odd, RefusalCase, nested, strange

BOTH = Family([PLAIN, TURN])


def path_product(family, word):
    """Find a product by its definition as sums over paths, another way than row by row."""
    places = range(family.many)
    sums = [[0] * family.many for _ in places]
    for path in tuples_of(places, repeat=len(word) + 1):
        worth = 1
        for step, number in enumerate(word):
            worth *= family.tables[number][path[step]][path[step + 1]]
        sums[path[0]][path[-1]] += worth
    return tuple(tuple(row) for row in sums)


def no_words(count):
    """Make values of many kinds, none of which is a word of a family of so many tables."""
    many = strange() + [0, 1, -1, 10 ** 999, [], [0], [0, 0], nested(1), nested(2), nested(50), PLAIN, BOTH]
    items = strange() + [-1, count, count + 1, -count, 10 ** 999, -(10 ** 999), (), (0,), [], [0], PLAIN, nested(40)]
    for item in items:
        many += [(item,), (0, item), (item, 0), (0, 0, item, 0), (0,) * 399 + (item,)]
    return many + [(0,) * 401, (0,) * 402, (0,) * 30000, (None,) * 401]


class IsWordTest(unittest.TestCase):

    def test_words(self):
        for family in (Family([SIDE]), BOTH, Family([UP, DOWN, UP]), Family([FOUR])):
            words = [(), (0,), (0, 0), (0,) * 399, (0,) * 400, tuple(range(len(family))), (len(family) - 1,) * 400]
            for word in words:
                with self.subTest(count=len(family), long=len(word)):
                    self.assertIs(is_word(family, word), True)

    def test_no_words(self):
        for family in (Family([SIDE]), BOTH, Family([UP, DOWN, UP])):
            for thing in no_words(len(family)):
                with self.subTest(count=len(family), thing=type(thing).__name__):
                    self.assertIs(is_word(family, thing), False)

    def test_the_numbers_are_those_of_the_family(self):
        self.assertIs(is_word(Family([UP]), (1,)), False)
        self.assertIs(is_word(Family([UP, DOWN]), (0, 1)), True)
        self.assertIs(is_word(Family([UP, DOWN]), (2,)), False)
        self.assertIs(is_word(Family([UP, DOWN, UP]), (2,)), True)
        self.assertIs(is_word(Family([UP, DOWN, UP]), (3,)), False)

    def test_by_names(self):
        self.assertIs(is_word(thing=(1, 0), family=BOTH), True)
        self.assertIs(is_word(BOTH, thing=[1, 0]), False)

    def test_the_thing_stays_as_it_was(self):
        thing = [0, [1]]
        is_word(BOTH, thing)
        self.assertEqual(thing, [0, [1]])


class ProductTest(RefusalCase):

    def test_the_example_of_the_document(self):
        self.assertEqual(product(Family([SIDE]), (0, 0, 0, 0)), ((1, 12), (0, 1)))

    def test_of_nothing(self):
        self.assertEqual(product(Family([((5,),)]), ()), ((1,),))
        self.assertEqual(product(BOTH, ()), ((1, 0), (0, 1)))
        self.assertEqual(product(Family([ROUND]), ()), ((1, 0, 0), (0, 1, 0), (0, 0, 1)))
        self.assertEqual(product(Family([FOUR]), ()), ((1, 0, 0, 0), (0, 1, 0, 0), (0, 0, 1, 0), (0, 0, 0, 1)))

    def test_of_one_number(self):
        family = Family([PLAIN, TURN, UP])
        for number in range(3):
            self.assertEqual(product(family, (number,)), family.tables[number])

    def test_by_hand(self):
        self.assertEqual(product(BOTH, (0, 1)), ((10, 1), (20, 3)))
        self.assertEqual(product(BOTH, (1, 0)), ((3, 4), (5, 10)))
        self.assertEqual(product(BOTH, (0, 0)), ((7, 10), (15, 22)))
        self.assertEqual(product(BOTH, (1, 1)), ((5, 0), (0, 5)))
        self.assertEqual(product(BOTH, (0, 1, 0)), ((13, 24), (29, 52)))

    def test_two_that_are_nought_by_themselves(self):
        two = Family([UP, DOWN])
        self.assertEqual(product(two, (0, 0)), ((0, 0), (0, 0)))
        self.assertEqual(product(two, (1, 1)), ((0, 0), (0, 0)))
        self.assertEqual(product(two, (0, 1)), ((2, 0), (0, 0)))
        self.assertEqual(product(two, (1, 0)), ((0, 0), (0, 2)))
        self.assertEqual(product(two, (0, 1) * 200), ((2 ** 200, 0), (0, 0)))

    def test_one_place(self):
        family = Family([((9,),), ((0,),), ((7,),)])
        self.assertEqual(product(family, (0, 2, 0)), ((567,),))
        self.assertEqual(product(family, (0, 2, 1, 0)), ((0,),))
        self.assertEqual(product(family, (0,) * 400), ((9 ** 400,),))

    def test_three_places_in_a_round(self):
        family = Family([ROUND])
        self.assertEqual(product(family, (0, 0)), ((0, 0, 1), (1, 0, 0), (0, 1, 0)))
        self.assertEqual(product(family, (0, 0, 0)), ((1, 0, 0), (0, 1, 0), (0, 0, 1)))
        self.assertEqual(product(family, (0,) * 400), ROUND)

    def test_the_greatest_entries(self):
        entry = 9 * 36 ** 399
        self.assertEqual(product(Family([FOUR]), (0,) * 400), ((entry,) * 4,) * 4)

    def test_many_numbers(self):
        self.assertEqual(product(Family([SIDE]), (0,) * 400), ((1, 1200), (0, 1)))

    def test_by_paths(self):
        families = [
            BOTH,
            Family([UP, DOWN, SIDE]),
            Family([ROUND, ((0, 2, 3), (9, 0, 0), (4, 1, 7))]),
            Family([((0, 1, 2, 3), (4, 5, 6, 7), (8, 9, 0, 1), (2, 3, 4, 5)), FOUR]),
        ]
        for family in families:
            for long in range(4):
                for word in tuples_of(range(len(family)), repeat=long):
                    with self.subTest(tables=family.tables, word=word):
                        self.assertEqual(product(family, word), path_product(family, word))
                        self.assertEqual(size(family, word), sum(map(sum, path_product(family, word))))

    def test_kinds_of_values(self):
        for word in ((), (0,), (0, 1, 0)):
            told = product(BOTH, word)
            self.assertIs(type(told), tuple)
            self.assertEqual([type(row) for row in told], [tuple, tuple])
            self.assertEqual([type(entry) for row in told for entry in row], [int] * 4)

    def test_by_names(self):
        self.assertEqual(product(word=(0, 1), family=BOTH), ((10, 1), (20, 3)))
        self.assertEqual(product(BOTH, word=(1, 0)), ((3, 4), (5, 10)))

    def test_the_family_stays_as_it_was(self):
        family = Family([PLAIN, TURN])
        self.assertEqual(product(family, (0, 1)), product(family, (0, 1)))
        self.assertEqual(family.tables, (PLAIN, TURN))

    def test_no_words(self):
        for family in (Family([SIDE]), BOTH, Family([UP, DOWN, UP])):
            for thing in no_words(len(family)):
                with self.subTest(count=len(family), thing=type(thing).__name__):
                    self.refused(BadWord, "value", thing, product, family, thing)
                    self.refused(BadWord, "value", thing, product, family=family, word=thing)

    def test_an_odd_number_in_a_word(self):
        self.refused(BadWord, "value", odd := (0, Odd()), product, BOTH, odd)

    def test_a_refusal_is_a_growth_error(self):
        with self.assertRaises(GrowthError):
            product(BOTH, (2,))


class SizeTest(RefusalCase):

    def test_of_nothing(self):
        for many in range(1, 5):
            self.assertEqual(size(Family([((7,) * many,) * many]), ()), many)

    def test_by_hand(self):
        self.assertEqual(size(BOTH, (0,)), 10)
        self.assertEqual(size(BOTH, (1,)), 6)
        self.assertEqual(size(BOTH, (0, 1)), 34)
        self.assertEqual(size(BOTH, (1, 0)), 22)
        self.assertEqual(size(BOTH, (0, 1, 0)), 118)
        self.assertEqual(size(Family([SIDE]), (0, 0, 0, 0)), 14)
        self.assertEqual(size(Family([UP, DOWN]), (0, 0)), 0)
        self.assertEqual(size(Family([UP, DOWN]), (0, 1, 0, 1)), 4)
        self.assertEqual(size(Family([ROUND]), (0, 0)), 3)

    def test_many_numbers(self):
        self.assertEqual(size(Family([FOUR]), (0,) * 400), 16 * 9 * 36 ** 399)
        self.assertEqual(size(Family([SIDE]), (0,) * 400), 1202)

    def test_kind_of_value(self):
        self.assertIs(type(size(BOTH, ())), int)
        self.assertIs(type(size(BOTH, (0, 1))), int)

    def test_by_names(self):
        self.assertEqual(size(word=(0, 1), family=BOTH), 34)

    def test_no_words(self):
        for family in (Family([SIDE]), BOTH, Family([UP, DOWN, UP])):
            for thing in no_words(len(family)):
                with self.subTest(count=len(family), thing=type(thing).__name__):
                    self.refused(BadWord, "value", thing, size, family, thing)
                    self.refused(BadWord, "value", thing, size, family=family, word=thing)
