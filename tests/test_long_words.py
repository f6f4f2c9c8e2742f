"""Tests of long words, of up to 400 numbers, in products and in papers: points [11] and [16]."""

import random
import unittest
from unittest import mock

import reckoning
from drawn import POWERS, by_hand, drawn
from growthkinds import products
from growthkinds.errors import BadPaper, BadWord
from growthkinds.families import Family
from growthkinds.kinds import check
from growthkinds.products import product, size
from samples import DOWN, FOUR, SIDE, UP, RefusalCase

STAIRS = ((1, 1, 0, 0), (0, 1, 1, 0), (0, 0, 1, 1), (0, 0, 0, 1))
STAIRS_LINKS = ((0, 1, (0,)), (1, 2, (0,)), (2, 3, (0,)))


def entry_by_entry(tables, word):
    """Multiply the tables of a word, one behind another, and each entry by itself."""
    places = range(len(tables[0]))
    result = {(i, j): int(i == j) for i in places for j in places}
    for number in word:
        table = tables[number]
        before = result
        result = {}
        for i in places:
            for j in places:
                result[i, j] = 0
                for k in places:
                    result[i, j] += before[i, k] * table[k][j]
    return tuple(tuple(result[i, j] for j in places) for i in places)


def full(draw, many):
    """Draw a table with entries above 0 only."""
    return tuple(tuple(draw.randrange(1, 10) for _ in range(many)) for _ in range(many))


def families():
    """List tables of one to four places, of all kinds."""
    draw = random.Random(131)
    many = [tuple(full(draw, places) for _ in range(count)) for places in range(1, 5) for count in range(1, 4)]
    return many + [(FOUR,) * 3, (STAIRS,), (STAIRS, tuple(zip(*STAIRS)))] + [tables for tables, _ in by_hand()] + drawn(132, 60)


def words(draw, count, long):
    """Draw words of so many numbers: without any order, and with parts that come again and again."""
    some = tuple(draw.randrange(count) for _ in range(7))
    return [
        tuple(draw.randrange(count) for _ in range(long)),
        (some * long)[:long],
        (some[:2] * long)[:long],
        (count - 1,) * long,
        (0,) * (long - 1) + (count - 1,),
        (count - 1,) + (0,) * (long - 1),
        tuple(draw.choice((0, 0, 0, count - 1)) for _ in range(long)),
    ]


class LongProductTest(RefusalCase):

    def test_entry_by_entry(self):
        draw = random.Random(133)
        for tables in families():
            for long in (100, 400):
                # All of them take their time with 400 numbers.
                for word in words(draw, len(tables), long)[:7 if long == 100 else 2]:
                    with self.subTest(tables=tables, word=word):
                        told = product(Family(tables), word)
                        self.assertEqual(told, entry_by_entry(tables, word))
                        self.assertEqual(size(Family(tables), word), sum(map(sum, told)))

    def test_each_length(self):
        draw = random.Random(134)
        for places in range(1, 5):
            tables = tuple(full(draw, places) for _ in range(3))
            word = tuple(draw.randrange(3) for _ in range(400))
            wanted = entry_by_entry(tables, ())
            for long in range(401):
                with self.subTest(places=places, long=long):
                    self.assertEqual(product(Family(tables), word[:long]), wanted)
                wanted = reckoning.times(wanted, tables[word[long % 400]])

    def test_kinds_of_values(self):
        for tables in families()[:12]:
            told = product(Family(tables), (0,) * 400)
            self.assertIs(type(told), tuple)
            self.assertEqual({type(row) for row in told}, {tuple})
            self.assertEqual({type(entry) for row in told for entry in row}, {int})

    def test_equal_calls_with_others_in_between(self):
        draw = random.Random(135)
        many = [(Family(tables), word) for tables in families()[:20] for word in words(draw, len(tables), 150)]
        first = [product(family, word) for family, word in many]
        self.assertEqual([product(family, word) for family, word in many[::-1]][::-1], first)
        for family, word in many:
            self.assertEqual(len(word), 150)

    def test_how_often_is_multiplied(self):
        draw = random.Random(136)
        for tables, word, most in (
            ((STAIRS,), (0,) * 400, 20),
            ((FOUR,) * 3, (0, 1, 2, 1) * 100, 40),
            ((FOUR,) * 3, tuple(draw.randrange(3) for _ in range(400)), 200),
            ((FOUR,) * 2, tuple(draw.randrange(2) for _ in range(400)), 200),
        ):
            with mock.patch.object(products, "times", wraps=products.times) as times:
                product(Family(tables), word)
            with self.subTest(word=word):
                self.assertLessEqual(times.call_count, most)

    def test_one_number_too_many(self):
        for tables in families()[:20]:
            word = (0,) * 401
            self.refused(BadWord, "value", word, product, Family(tables), word)
            self.refused(BadWord, "value", word, size, Family(tables), word)


class LongPaperTest(unittest.TestCase):

    def wrong(self, tables, thing, word):
        """Check that a thing is refused with a word."""
        with self.assertRaises(BadPaper) as caught:
            check(Family(tables), thing)
        self.assertEqual(caught.exception.place, word)

    def test_of_a_factor(self):
        for tables, word in (((UP, DOWN), (0, 1)), ((FOUR,) * 3, (2, 0)), ((((9,),),), (0, 0))):
            self.assertEqual(check(Family(tables), ("factor", 0, word * 200)), "factor")
            self.wrong(tables, ("factor", 0, word * 200 + word[:1]), "word")
            self.wrong(tables, ("factor", 0, word * 201), "word")

    def test_of_a_power_in_its_joins(self):
        for at in range(2):
            for long, word in ((400, None), (401, "joins"), (402, "joins")):
                joins = tuple((0,) * long if at == one else () for one in range(2))
                thing = ("power", 3, STAIRS_LINKS, joins)
                with self.subTest(at=at, long=long):
                    if word is None:
                        self.assertEqual(check(Family([STAIRS]), thing), "power")
                    else:
                        self.wrong((STAIRS,), thing, word)

    def test_of_a_power_in_its_links(self):
        for at in range(3):
            for long in (399, 400, 401):
                links = tuple((i, j, (0,) * long if i == at else word) for i, j, word in STAIRS_LINKS)
                thing = ("power", 3, links, ((), ()))
                with self.subTest(at=at, long=long):
                    if long <= 400:
                        self.assertEqual(check(Family([STAIRS]), thing), "power")
                    else:
                        self.wrong((STAIRS,), thing, "links")

    def test_of_all_kinds_of_powers(self):
        for power, tables in POWERS[:1] + [(1, (SIDE, SIDE))]:
            self.assertEqual(check(Family(tables), ("power", power, ((0, 1, (len(tables) - 1,) * 400),), ())), "power")
            self.wrong(tables, ("power", power, ((0, 1, (len(tables) - 1,) * 401),), ()), "links")

    def test_a_long_word_that_shows_nothing(self):
        self.wrong((STAIRS,), ("power", 3, STAIRS_LINKS[:2] + ((3, 2, (0,) * 400),), ((), ())), "links")
        self.wrong((UP, DOWN), ("factor", 0, (0, 1) * 199 + (0, 0)), "word")
        self.wrong((UP, DOWN), ("factor", 1, (0, 1) * 200), "word")
