"""Tests of steps, links and the shortest words that show them: points [12] to [14], and the interface under links.py."""

import unittest

import reckoning
from drawn import by_hand, drawn
from growthkinds.errors import BadNumber, GrowthError
from growthkinds.families import Family
from growthkinds.links import double_word, join, leads, link_word, links
from samples import DOWN, FOUR, ROUND, SIDE, UP, RefusalCase, no_numbers

TWO_PLACES = (leads, join, link_word)
# The shortest words of these that link, or double, have many numbers.
FAR_LINK = (
    ((1, 0, 0, 0), (0, 1, 0, 0), (0, 0, 0, 1), (0, 0, 0, 0)),
    ((0, 0, 1, 0), (1, 0, 0, 0), (0, 0, 0, 0), (0, 1, 0, 0)),
    ((0, 0, 0, 1), (0, 0, 0, 0), (0, 1, 1, 0), (0, 0, 0, 1)),
)
FAR_DOUBLE = (
    ((0, 0, 0, 0), (1, 0, 0, 0), (0, 0, 0, 0), (0, 1, 1, 0)),
    ((0, 0, 1, 0), (0, 0, 0, 0), (0, 0, 0, 1), (0, 1, 0, 0)),
    ((1, 0, 0, 0), (1, 0, 0, 0), (0, 0, 0, 1), (0, 0, 1, 0)),
)


def looked_at():
    """List the tables of the families that are looked at: those made by hand, and many drawn ones."""
    return [tables for tables, _ in by_hand()] + [FAR_LINK, FAR_DOUBLE] + drawn(11, 400)


def pairs(tables):
    """List all pairs of places."""
    places = range(len(tables[0]))
    return [(one, other) for one in places for other in places]


class ToldWordCase(unittest.TestCase):

    def told(self, tables, word, long, *cells):
        """Check that a told word has so many numbers, or is None, and shows at least so much at each cell."""
        if long is None:
            self.assertIsNone(word)
        else:
            self.assertIs(type(word), tuple)
            self.assertEqual({type(number) for number in word} - {int}, set())
            self.assertEqual(len(word), long)
            self.assertTrue(reckoning.shows(tables, word, *cells))

    def compared(self, tables, long, told, good):
        """Check by all products of words of up to so many numbers that a told word is a shortest one."""
        lengths = [count for count in range(long + 1) for word in reckoning.words_of(tables, count)
                   if good(reckoning.multiplied(tables, word))]
        if lengths:
            self.assertEqual(len(told), lengths[0])
        else:
            self.assertTrue(told is None or len(told) > long)


class LeadsTest(unittest.TestCase):

    def test_by_hand(self):
        side = Family([SIDE])
        self.assertIs(leads(side, 0, 1), True)
        self.assertIs(leads(side, 1, 0), False)
        self.assertIs(leads(Family([UP, DOWN]), 1, 0), True)
        around = Family([ROUND])
        for one, other in pairs([ROUND]):
            self.assertIs(leads(around, one, other), True)

    def test_by_no_steps(self):
        for many in range(1, 5):
            family = Family([((0,) * many,) * many])
            for one, other in pairs(family.tables):
                with self.subTest(many=many, one=one, other=other):
                    self.assertIs(leads(family, one, other), one == other)

    def test_steps_of_unlike_tables(self):
        first = ((0, 1, 0), (0, 0, 0), (0, 0, 0))
        second = ((0, 0, 0), (0, 0, 7), (0, 0, 0))
        self.assertIs(leads(Family([first]), 0, 2), False)
        self.assertIs(leads(Family([second]), 0, 2), False)
        self.assertIs(leads(Family([first, second]), 0, 2), True)
        self.assertIs(leads(Family([second, first]), 0, 2), True)
        self.assertIs(leads(Family([first, second]), 2, 0), False)

    def test_by_walks(self):
        for tables in looked_at():
            family = Family(tables)
            later = reckoning.later_places(tables)
            for one, other in pairs(tables):
                with self.subTest(tables=tables, one=one, other=other):
                    self.assertIs(leads(family, one, other), one == other or other in later[one])


class JoinTest(ToldWordCase):

    def test_by_hand(self):
        self.assertEqual(join(Family([SIDE]), 0, 1), (0,))
        self.assertIsNone(join(Family([SIDE]), 1, 0))
        self.assertEqual(join(Family([UP, DOWN]), 1, 0), (1,))
        self.assertEqual(join(Family([ROUND]), 0, 2), (0, 0))
        self.assertEqual(join(Family([ROUND]), 2, 1), (0, 0))

    def test_from_a_place_to_itself(self):
        for tables in looked_at():
            family = Family(tables)
            for place in range(family.many):
                self.assertEqual(join(family, place, place), ())

    def test_three_numbers_in_their_order(self):
        step = [tuple(tuple(int((i, j) == cell) for j in range(4)) for i in range(4)) for cell in ((2, 0), (3, 1), (0, 3))]
        self.assertEqual(join(Family(step), 2, 1), (0, 2, 1))
        self.assertEqual(join(Family(step[::-1]), 2, 1), (2, 0, 1))
        self.assertIsNone(join(Family(step[:2]), 2, 1))

    def test_by_rows_of_products(self):
        for tables in looked_at():
            family = Family(tables)
            for one, other in pairs(tables):
                with self.subTest(tables=tables, one=one, other=other):
                    told = join(family, one, other)
                    self.told(tables, told, reckoning.join_length(tables, one, other), (one, other, 1))

    def test_by_all_products_of_short_words(self):
        for tables in drawn(12, 80):
            for one, other in pairs(tables):
                with self.subTest(tables=tables, one=one, other=other):
                    told = join(Family(tables), one, other)
                    self.compared(tables, 3, told, lambda product: product[one][other] > 0)


class LinksTest(unittest.TestCase):

    def test_by_hand(self):
        self.assertEqual(links(Family([SIDE])), ((0, 1),))
        self.assertEqual(links(Family([((1, 0), (1, 1))])), ((1, 0),))
        self.assertEqual(links(Family([UP])), ())
        self.assertEqual(links(Family([ROUND])), ())
        self.assertEqual(links(Family([((5,),)])), ())
        self.assertEqual(links(Family([((1, 1, 0), (0, 1, 1), (0, 0, 1))])), ((0, 1), (0, 2), (1, 2)))
        self.assertEqual(links(Family([FOUR])), tuple((i, j) for i in range(4) for j in range(4) if i != j))

    def test_one_and_the_same_product_is_wanted(self):
        # One table has the entry at (0, 0), another one that at (1, 1).
        self.assertEqual(links(Family([((1, 1), (0, 0))])), ())
        self.assertEqual(links(Family([((1, 0), (0, 0)), ((0, 1), (0, 1))])), ())
        self.assertEqual(links(Family([((1, 1), (0, 0)), ((0, 1), (0, 1))])), ())
        self.assertEqual(links(Family([((1, 1), (0, 0)), ((1, 0), (0, 1))])), ())
        self.assertEqual(links(Family([((1, 1), (0, 0)), ((1, 1), (0, 1))])), ((0, 1),))

    def test_tables_that_link_together_only(self):
        one, other = ((0, 1), (1, 0)), ((0, 1), (1, 1))
        self.assertEqual(links(Family([one])), ())
        self.assertEqual(links(Family([one, other])), ((0, 1), (1, 0)))

    def test_by_rows_of_products(self):
        for tables in looked_at():
            with self.subTest(tables=tables):
                told = links(Family(tables))
                self.assertIs(type(told), tuple)
                self.assertEqual(list(told), reckoning.all_links(tables))
                self.assertEqual({(type(link), type(link[0]), type(link[1])) for link in told} - {(tuple, int, int)}, set())

    def test_by_name(self):
        self.assertEqual(links(family=Family([SIDE])), ((0, 1),))


class LinkWordTest(ToldWordCase):

    def test_by_hand(self):
        self.assertEqual(link_word(Family([SIDE]), 0, 1), (0,))
        self.assertIsNone(link_word(Family([SIDE]), 1, 0))
        self.assertEqual(link_word(Family([UP, SIDE]), 0, 1), (1,))

    def test_no_place_is_linked_with_itself(self):
        for tables in looked_at():
            family = Family(tables)
            for place in range(family.many):
                self.assertIsNone(link_word(family, place, place))

    def test_a_far_link(self):
        told = [link_word(Family(FAR_LINK), one, other) for one, other in pairs(FAR_LINK)]
        self.assertEqual(max([len(word) for word in told if word is not None]), 13)

    def test_by_rows_of_products(self):
        for tables in looked_at():
            family = Family(tables)
            for i, j in pairs(tables):
                with self.subTest(tables=tables, i=i, j=j):
                    told = link_word(family, i, j)
                    self.told(tables, told, reckoning.link_length(tables, i, j), (i, i, 1), (i, j, 1), (j, j, 1))
                    self.assertIs(told is not None, (i, j) in links(family))

    def test_by_all_products_of_short_words(self):
        for tables in drawn(13, 80) + [FAR_LINK]:
            for i, j in pairs(tables):
                with self.subTest(tables=tables, i=i, j=j):
                    told = link_word(Family(tables), i, j)
                    self.compared(tables, 4, told, lambda product: i != j and product[i][i] and product[i][j] and product[j][j])


class DoubleWordTest(ToldWordCase):

    def test_by_hand(self):
        two = Family([UP, DOWN])
        self.assertEqual(double_word(two, 0), (0, 1))
        self.assertEqual(double_word(two, 1), (1, 0))
        self.assertIsNone(double_word(Family([SIDE]), 0))
        self.assertIsNone(double_word(Family([UP]), 0))
        self.assertEqual(double_word(Family([((2,),)]), 0), (0,))
        self.assertEqual(double_word(Family([((1,),), ((3,),)]), 0), (1,))
        self.assertIsNone(double_word(Family([((1,),), ((0,),)]), 0))

    def test_at_some_places_only(self):
        family = Family([((1, 0), (5, 2))])
        self.assertIsNone(double_word(family, 0))
        self.assertEqual(double_word(family, 1), (0,))

    def test_two_walks_that_meet(self):
        # Two ways from 0 to 3, and one back.
        family = Family([((0, 1, 1, 0), (0, 0, 0, 1), (0, 0, 0, 1), (1, 0, 0, 0))])
        self.assertEqual([double_word(family, place) for place in range(4)], [(0,) * 3, (0,) * 6, (0,) * 6, (0,) * 3])

    def test_two_walks_that_do_not_meet_at_the_same_time(self):
        self.assertIsNone(double_word(Family([((0, 1), (1, 0)), ((0, 1), (1, 0))]), 0))
        self.assertIsNone(double_word(Family([((1, 0), (1, 0)), ((0, 1), (0, 1))]), 0))

    def test_an_entry_of_2_that_none_comes_back_from(self):
        self.assertIsNone(double_word(Family([((1, 9), (0, 1))]), 0))
        self.assertIsNone(double_word(Family([((1, 9), (0, 1))]), 1))

    def test_a_far_double(self):
        told = [double_word(Family(FAR_DOUBLE), place) for place in range(4)]
        self.assertEqual(max([len(word) for word in told if word is not None]), 13)

    def test_by_rows_of_products(self):
        for tables in looked_at():
            family = Family(tables)
            for place in range(family.many):
                with self.subTest(tables=tables, place=place):
                    told = double_word(family, place)
                    self.assertNotEqual(told, ())
                    self.told(tables, told, reckoning.double_length(tables, place), (place, place, 2))

    def test_by_all_products_of_short_words(self):
        for tables in drawn(14, 120) + [FAR_DOUBLE]:
            for place in range(len(tables[0])):
                with self.subTest(tables=tables, place=place):
                    told = double_word(Family(tables), place)
                    self.compared(tables, 5, told, lambda product: product[place][place] >= 2)


class RefusalTest(RefusalCase):

    def test_no_places(self):
        for tables in ([((1,),)], [SIDE, UP], [ROUND], [FOUR]):
            family = Family(tables)
            for thing in no_numbers(family.many):
                with self.subTest(many=family.many, thing=type(thing).__name__):
                    self.refused(BadNumber, "value", thing, double_word, family, thing)
                    self.refused(BadNumber, "value", thing, double_word, one=thing, family=family)
                    for call in TWO_PLACES:
                        self.refused(BadNumber, "value", thing, call, family, thing, 0)
                        self.refused(BadNumber, "value", thing, call, family, 0, thing)
                        self.refused(BadNumber, "value", thing, call, other=thing, family=family, one=0)

    def test_of_two_the_first_counts(self):
        family = Family([SIDE])
        for thing in no_numbers(2):
            for call in TWO_PLACES:
                with self.subTest(call=call.__name__, thing=type(thing).__name__):
                    mark = ["other"]
                    self.refused(BadNumber, "value", thing, call, family, thing, mark)
                    self.refused(BadNumber, "value", mark, call, family, mark, thing)
                    self.refused(BadNumber, "value", thing, call, other=mark, one=thing, family=family)
        for call in TWO_PLACES:
            self.refused(BadNumber, "value", 2, call, family, 2, -1)
            self.refused(BadNumber, "value", -1, call, family, -1, 2)

    def test_places_are_those_of_the_family(self):
        for many in range(1, 5):
            family = Family([((1,) * many,) * many])
            for call in TWO_PLACES:
                call(family, many - 1, many - 1)
                self.refused(BadNumber, "value", many, call, family, many, 0)
                self.refused(BadNumber, "value", many, call, family, 0, many)
            double_word(family, many - 1)
            self.refused(BadNumber, "value", many, double_word, family, many)

    def test_a_refusal_is_a_growth_error(self):
        with self.assertRaises(GrowthError):
            join(Family([SIDE]), 0, True)
