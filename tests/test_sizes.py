"""Tests of the greatest, least and average size at a length: points [11] and [13], and the interface under sizes.py."""

from fractions import Fraction

import reckoning
from drawn import by_hand, drawn
from growthkinds.errors import BadNumber, GrowthError
from growthkinds.families import Family
from growthkinds.products import size
from growthkinds.sizes import average, greatest, least
from samples import DOWN, FOUR, PLAIN, ROUND, SIDE, UP, RefusalCase, no_numbers


def looked_at():
    """List pairs of tables and a length, all lengths for some of them."""
    few = [tables for tables, _ in by_hand()] + drawn(71, 30)
    many = [(tables, long) for tables in few for long in range(6)]
    many += [(tables, 6) for tables in few[::2]]
    return many + [(tables, long) for tables in drawn(72, 300) for long in range(4)]


class SizesTest(RefusalCase):

    def pair(self, told):
        """Check that what is told is a pair of an integer and a word, and give it."""
        self.assertIs(type(told), tuple)
        self.assertEqual([type(part) for part in told], [int, tuple])
        self.assertTrue(all(type(number) is int for number in told[1]))
        return told

    def test_the_example_of_the_document(self):
        self.assertEqual(greatest(Family([((0, 1), (0, 0)), ((0, 0), (2, 0))]), 4), (4, (0, 1, 0, 1)))

    def test_by_hand(self):
        two = Family([UP, DOWN])
        self.assertEqual(greatest(two, 1), (2, (1,)))
        self.assertEqual(least(two, 1), (1, (0,)))
        self.assertEqual(average(two, 1), (3, 2))
        self.assertEqual(least(two, 4), (0, (0, 0, 0, 0)))
        self.assertEqual(average(two, 4), (1, 2))
        self.assertEqual(greatest(Family([SIDE]), 6), (20, (0,) * 6))
        self.assertEqual(least(Family([SIDE]), 6), (20, (0,) * 6))
        self.assertEqual(average(Family([SIDE]), 6), (20, 1))
        self.assertEqual(greatest(Family([PLAIN]), 2), (54, (0, 0)))
        self.assertEqual(greatest(Family([FOUR] * 3), 6), (16 * 9 * 36 ** 5, (0,) * 6))

    def test_of_length_0_each_is_the_number_of_places(self):
        for many in range(1, 5):
            for count in range(1, 4):
                family = Family([((7,) * many,) * many] * count)
                self.assertEqual(greatest(family, 0), (many, ()))
                self.assertEqual(least(family, 0), (many, ()))
                self.assertEqual(average(family, 0), (many, 1))

    def test_an_average_of_nought(self):
        family = Family([UP, UP, UP])
        for length in (2, 3, 6):
            self.assertEqual(average(family, length), (0, 1))
            self.assertEqual(greatest(family, length), (0, (0,) * length))

    def test_alike_sizes_tell_the_first_word(self):
        for tables in ([ROUND, ROUND, ROUND], [SIDE, tuple(zip(*SIDE))], [UP, UP, DOWN]):
            for length in range(7):
                sizes = reckoning.sizes_of(tables, length)
                for call, wanted in ((greatest, max(sizes.values())), (least, min(sizes.values()))):
                    with self.subTest(tables=tables, length=length, call=call.__name__):
                        first = min(word for word, one in sizes.items() if one == wanted)
                        self.assertEqual(call(Family(tables), length), (wanted, first))

    def test_by_multiplying_all_words(self):
        for tables, length in looked_at():
            sizes = reckoning.sizes_of(tables, length)
            family = Family(tables)
            with self.subTest(tables=tables, length=length):
                most, fewest = max(sizes.values()), min(sizes.values())
                self.assertEqual(self.pair(greatest(family, length)), (most, min(w for w in sizes if sizes[w] == most)))
                self.assertEqual(self.pair(least(family, length)), (fewest, min(w for w in sizes if sizes[w] == fewest)))
                told = average(family, length)
                self.assertEqual([type(told)] + [type(part) for part in told], [tuple, int, int])
                wanted = Fraction(sum(sizes.values()), len(sizes))
                self.assertEqual(told, (wanted.numerator, wanted.denominator))

    def test_the_sizes_are_those_of_the_words(self):
        for tables in drawn(73, 100):
            for length in (1, 3, 5):
                for call in (greatest, least):
                    told, word = call(Family(tables), length)
                    self.assertEqual((size(Family(tables), word), len(word)), (told, length))

    def test_no_lengths(self):
        for tables in ([SIDE], [UP, DOWN], [FOUR] * 3):
            family = Family(tables)
            for thing in no_numbers(7):
                for call in (greatest, least, average):
                    with self.subTest(call=call.__name__, thing=type(thing).__name__):
                        self.refused(BadNumber, "value", thing, call, family, thing)
                        self.refused(BadNumber, "value", thing, call, length=thing, family=family)

    def test_a_refusal_is_a_growth_error(self):
        with self.assertRaises(GrowthError):
            greatest(Family([SIDE]), 7)

    def test_by_names(self):
        self.assertEqual(greatest(length=2, family=Family([SIDE])), (8, (0, 0)))
        self.assertEqual(least(length=2, family=Family([SIDE])), (8, (0, 0)))
        self.assertEqual(average(length=2, family=Family([SIDE])), (8, 1))
