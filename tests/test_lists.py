"""Tests of the lists of all products and sizes: points [11] and [15], and the interface under lists.py."""

import unittest

import reckoning
from drawn import FACTOR, LEVEL, NIL, POWERS, by_hand, drawn
from growthkinds.errors import Grows, TooMany
from growthkinds.families import Family
from growthkinds.kinds import check
from growthkinds.lists import all_products, sizes_of
from growthkinds.products import product, size
from samples import DOWN, ROUND, SIDE, UP

UNIT = ((1, 0), (0, 1))
# Each has just so many products.
JUST = {
    397: (
        ((1, 0, 0, 0), (0, 0, 1, 0), (0, 0, 1, 0), (0, 1, 2, 0)),
        ((0, 1, 0, 1), (0, 0, 0, 0), (0, 0, 1, 0), (1, 0, 0, 0)),
        ((0, 1, 4, 0), (1, 0, 0, 0), (0, 0, 0, 0), (0, 0, 0, 1)),
    ),
    399: (
        ((0, 0, 1, 0), (3, 1, 0, 0), (0, 0, 0, 0), (0, 0, 2, 1)),
        ((0, 0, 1, 0), (1, 0, 4, 0), (1, 0, 0, 0), (0, 1, 3, 0)),
        ((0, 0, 0, 0), (1, 0, 0, 1), (0, 0, 1, 0), (1, 1, 0, 0)),
    ),
    400: (
        ((1, 0, 1, 0), (3, 0, 1, 0), (0, 0, 0, 1), (0, 0, 0, 0)),
        ((0, 0, 0, 1), (0, 1, 0, 0), (1, 0, 0, 0), (0, 0, 1, 0)),
        ((0, 0, 0, 0), (0, 1, 0, 0), (0, 0, 0, 1), (0, 0, 1, 0)),
    ),
    401: (
        ((0, 0, 1, 0), (0, 0, 0, 1), (0, 1, 0, 0), (1, 0, 0, 0)),
        ((0, 0, 0, 1), (0, 1, 0, 0), (0, 0, 0, 1), (0, 0, 1, 0)),
        ((0, 0, 0, 0), (0, 0, 0, 0), (1, 0, 0, 0), (0, 0, 0, 1)),
    ),
    402: (
        ((0, 0, 0, 1), (1, 0, 0, 0), (0, 0, 1, 0), (0, 0, 2, 0)),
        ((0, 0, 1, 0), (1, 0, 0, 0), (0, 0, 1, 0), (0, 1, 0, 0)),
        ((0, 1, 0, 0), (0, 0, 2, 0), (0, 0, 0, 0), (1, 0, 0, 1)),
    ),
    662: (
        ((0, 0, 1, 0), (1, 0, 2, 1), (0, 0, 1, 0), (1, 0, 0, 0)),
        ((0, 0, 1, 0), (0, 1, 0, 0), (0, 0, 0, 1), (1, 0, 0, 0)),
        ((1, 0, 0, 0), (0, 1, 1, 0), (0, 0, 0, 1), (0, 0, 0, 0)),
    ),
}


def finite():
    """List the tables of families that have finitely many products, and no more than may be told."""
    many = [tables for tables in NIL + LEVEL + drawn(41, 700) if reckoning.kind_of(tables) <= ("power", 0)
            and reckoning.kind_of(tables) != ("factor",)]
    return [tables for tables in many if reckoning.all_products(tables, 400) is not None]


def endless():
    """List the tables of families that have infinitely many products."""
    return [tables for tables, told in by_hand() + [(tables, reckoning.kind_of(tables)) for tables in drawn(42, 300)]
            if told not in (("nil",), ("power", 0))]


class AllProductsTest(unittest.TestCase):

    def test_by_hand(self):
        nought = ((0, 0), (0, 0))
        self.assertEqual(all_products(Family([((0,),)])), (((0,),), ((1,),)))
        self.assertEqual(all_products(Family([((1,),)])), (((1,),),))
        self.assertEqual(all_products(Family([UNIT])), (UNIT,))
        self.assertEqual(all_products(Family([UP])), (nought, UP, UNIT))
        self.assertEqual(all_products(Family([((1, 9), (0, 0))])), (UNIT, ((1, 9), (0, 0))))
        self.assertEqual(all_products(Family([UP, ((0, 0), (1, 0))])), (
            nought, ((0, 0), (0, 1)), ((0, 0), (1, 0)), UP, ((1, 0), (0, 0)), UNIT,
        ))
        self.assertEqual(all_products(Family([ROUND, ROUND])), (
            ((0, 0, 1), (1, 0, 0), (0, 1, 0)), ROUND, ((1, 0, 0), (0, 1, 0), (0, 0, 1)),
        ))

    def test_entries_above_9(self):
        family = Family([((0, 9, 9, 9), (0, 0, 9, 9), (0, 0, 0, 9), (0, 0, 0, 0))])
        self.assertIn(((0, 0, 0, 729), (0,) * 4, (0,) * 4, (0,) * 4), all_products(family))
        self.assertEqual(len(all_products(family)), 5)

    def test_by_multiplying(self):
        for tables in finite():
            with self.subTest(tables=tables):
                told = all_products(Family(tables))
                self.assertIs(type(told), tuple)
                self.assertEqual(list(told), reckoning.all_products(tables, 400))
                self.assertTrue(all(one < other for one, other in zip(told, told[1:])))

    def test_the_products_of_words_are_among_them(self):
        for tables in finite()[:150]:
            family = Family(tables)
            told = all_products(family)
            for long in range(5):
                for word in reckoning.words_of(tables, long):
                    self.assertIn(product(family, word), told)

    def test_kinds_of_values(self):
        for one in all_products(Family([UP, ((0, 0), (1, 0))])):
            self.assertIs(type(one), tuple)
            self.assertEqual([type(row) for row in one], [tuple, tuple])
            self.assertEqual([type(entry) for row in one for entry in row], [int] * 4)

    def test_by_name(self):
        self.assertEqual(all_products(family=Family([UNIT])), (UNIT,))


class SizesTest(unittest.TestCase):

    def test_by_hand(self):
        self.assertEqual(sizes_of(Family([((0,),)])), (0, 1))
        self.assertEqual(sizes_of(Family([UNIT])), (2,))
        self.assertEqual(sizes_of(Family([UP])), (0, 1, 2))
        self.assertEqual(sizes_of(Family([DOWN])), (0, 2))
        self.assertEqual(sizes_of(Family([((1, 9), (0, 0))])), (2, 10))
        self.assertEqual(sizes_of(Family([ROUND, ROUND])), (3,))
        self.assertEqual(sizes_of(Family([((0, 9, 9, 9), (0, 0, 9, 9), (0, 0, 0, 9), (0,) * 4)])), (0, 4, 54, 324, 729))

    def test_by_multiplying(self):
        for tables in finite():
            with self.subTest(tables=tables):
                told = sizes_of(Family(tables))
                self.assertIs(type(told), tuple)
                self.assertEqual(list(told), sorted({reckoning.total(one) for one in reckoning.all_products(tables, 400)}))
                self.assertEqual({type(one) for one in told}, {int})

    def test_the_sizes_of_words_are_among_them(self):
        for tables in finite()[:100]:
            family = Family(tables)
            told = sizes_of(family)
            for long in range(5):
                for word in reckoning.words_of(tables, long):
                    self.assertIn(size(family, word), told)

    def test_by_name(self):
        self.assertEqual(sizes_of(family=Family([UNIT])), (2,))


class GrowsTest(unittest.TestCase):

    def test_what_grows_is_refused_with_a_paper(self):
        for tables in endless():
            family = Family(tables)
            for call in (all_products, sizes_of):
                with self.subTest(tables=tables, call=call.__name__):
                    with self.assertRaises(Grows) as caught:
                        call(family)
                    self.assertIs(type(caught.exception), Grows)
                    told = caught.exception.paper
                    self.assertEqual(reckoning.verdict(tables, told), "holds")
                    self.assertEqual(check(family, told), told[0])

    def test_by_hand(self):
        with self.assertRaises(Grows) as caught:
            all_products(Family([SIDE]))
        self.assertEqual(caught.exception.paper, ("power", 1, ((0, 1, (0,)),), ()))
        with self.assertRaises(Grows) as caught:
            sizes_of(family=Family([((2,),)]))
        self.assertEqual(caught.exception.paper, ("factor", 0, (0,)))

    def test_each_power_and_the_factor(self):
        for tables in FACTOR + [tables for _, tables in POWERS]:
            for call in (all_products, sizes_of):
                with self.subTest(tables=tables, call=call.__name__), self.assertRaises(LookupError):
                    call(Family(tables))


class TooManyTest(unittest.TestCase):

    def test_up_to_400_are_told(self):
        for count in (397, 399, 400):
            with self.subTest(count=count):
                family = Family(JUST[count])
                self.assertEqual(len(all_products(family)), count)
                self.assertEqual(list(all_products(family)), reckoning.all_products(JUST[count], count))
                sizes = {reckoning.total(one) for one in reckoning.all_products(JUST[count], count)}
                self.assertEqual(list(sizes_of(family)), sorted(sizes))

    def test_more_than_400_are_refused(self):
        for count in (401, 402, 662):
            self.assertEqual(len(reckoning.all_products(JUST[count], count)), count)
            for call in (all_products, sizes_of):
                with self.subTest(count=count, call=call.__name__):
                    with self.assertRaises(TooMany) as caught:
                        call(Family(JUST[count]))
                    self.assertIs(type(caught.exception), TooMany)
                    self.assertEqual(caught.exception.most, 400)

    def test_a_few_sizes_of_many_products_are_refused_too(self):
        sizes = {reckoning.total(one) for one in reckoning.all_products(JUST[401], 401)}
        self.assertLess(len(sizes), 20)
        with self.assertRaises(TooMany):
            sizes_of(Family(JUST[401]))
