"""Tests of lots and of what is nought: points [10], [11] and [17], and the interface under noughts.py."""

import copy
import random
import unittest
from itertools import combinations
from unittest import mock

import reckoning
from drawn import by_hand, drawn
from growthkinds.errors import BadNumber, GrowthError
from growthkinds.families import Family
from growthkinds.noughts import is_closed, is_nought_paper, lots_made, made, nought_paper, nought_word
from growthkinds.products import product
from samples import (
    DOWN, ROUND, SIDE, UP, Odd, RefusalCase, near_misses, nested, no_integers, no_numbers, part_at, put,
    several_otherwise, spots, strange,
)

# No word of fewer numbers than that has a product of 0 everywhere.
LATE = {
    5: (((0, 1, 0, 0), (0, 0, 2, 1), (1, 1, 1, 1), (0, 0, 0, 9)),
        ((0, 9, 0, 0), (0, 0, 0, 0), (0, 2, 1, 1), (1, 0, 0, 2)),
        ((0, 0, 1, 0), (1, 0, 0, 0), (1, 0, 0, 0), (1, 0, 0, 0))),
    6: (((0, 0, 1, 9), (0, 0, 0, 9), (1, 9, 0, 0), (0, 0, 0, 0)),
        ((0, 0, 0, 0), (0, 0, 1, 0), (0, 0, 0, 0), (0, 1, 1, 1)),
        ((0, 0, 0, 1), (0, 2, 0, 1), (9, 0, 0, 1), (1, 2, 9, 1))),
    9: (((0, 1, 0, 0), (0, 0, 0, 1), (0, 0, 0, 0), (1, 0, 0, 0)),
        ((0, 9, 1, 0), (0, 0, 1, 0), (0, 1, 0, 0), (0, 0, 1, 1))),
    11: (((0, 0, 0, 0), (0, 0, 1, 0), (1, 0, 2, 0), (0, 0, 0, 9)),
         ((0, 0, 1, 0), (1, 0, 0, 0), (0, 0, 0, 1), (0, 1, 0, 0))),
}


def looked_at():
    """List the tables of the families that are looked at."""
    return [tables for tables, _ in by_hand()] + list(LATE.values()) + drawn(61, 500)


def all_lots(many):
    """List all lots of so many places."""
    return [lot for count in range(many + 1) for lot in combinations(range(many), count)]


def behind(table, lot):
    """What a table makes of a lot, by going through the columns."""
    columns = list(zip(*table))
    return tuple(j for j, column in enumerate(columns) if sum(column[i] for i in lot))


def everything(tables):
    """The lot of all places."""
    return tuple(range(len(tables[0])))


def lots_of(tables):
    """All lots that words make of the lot of all places, by the rows of products: where they are above 0."""
    many = len(tables[0])
    found = set()
    waiting = [reckoning.multiplied(tables, ())]
    while waiting:
        signs = waiting.pop()
        if signs not in found:
            found.add(signs)
            waiting += [tuple(tuple(min(1, entry) for entry in row) for row in reckoning.times(signs, table))
                        for table in tables]
    return {tuple(j for j in range(many) if any(row[j] for row in signs)) for signs in found}


def closed(tables, thing):
    """What the document says of any value as a closed lot of lots."""
    many = len(tables[0])
    if type(thing) is not tuple or not thing:
        return False
    for lot in thing:
        if type(lot) is not tuple or any(type(place) is not int for place in lot) or lot not in all_lots(many):
            return False
    if list(thing) != sorted(set(thing)) or () in thing or everything(tables) not in thing:
        return False
    return all(behind(table, lot) in thing for table in tables for lot in thing)


def shown(tables, thing):
    """What the document says of any value as a paper on what is nought."""
    if type(thing) is not tuple or len(thing) != 2 or type(thing[0]) is not str:
        return False
    if thing[0] == "word":
        word = thing[1]
        if type(word) is not tuple or len(word) > 400:
            return False
        if any(type(number) is not int or number not in range(len(tables)) for number in word):
            return False
        return reckoning.total(reckoning.multiplied(tables, word)) == 0
    return thing[0] == "closed" and closed(tables, thing[1])


def no_lots(many):
    """Make values of many kinds, none of which is a lot of so many places."""
    wrong = strange() + [0, 1, -1, 10 ** 999, [], [0], [0, 1], nested(1), nested(2), nested(50), SIDE, "01", {0}, {0: 1}]
    for item in no_numbers(many):
        wrong += [(item,), (0, item), (item, 0)]
    # Out of order, or something twice.
    wrong += [(0, 0), (many - 1, many - 1), tuple(range(many)) + (many - 1,), (0,) * 30000]
    if many > 1:
        wrong += [(1, 0), (0, 1, 1), (0, 1, 0), tuple(range(many))[::-1]]
    return wrong


class MadeTest(RefusalCase):

    def test_by_hand(self):
        family = Family([SIDE, UP, DOWN])
        self.assertEqual(made(family, 0, (0,)), (0, 1))
        self.assertEqual(made(family, 0, (1,)), (1,))
        self.assertEqual(made(family, 1, (0, 1)), (1,))
        self.assertEqual(made(family, 1, (1,)), ())
        self.assertEqual(made(family, 2, (0, 1)), (0,))
        self.assertEqual(made(family, 0, ()), ())
        self.assertEqual(made(Family([ROUND]), 0, (0, 2)), (0, 1))

    def test_all_lots_of_drawn_families(self):
        for tables in looked_at():
            family = Family(tables)
            for number, table in enumerate(tables):
                for lot in all_lots(family.many):
                    with self.subTest(tables=tables, number=number, lot=lot):
                        told = made(family, number, lot)
                        self.assertIs(type(told), tuple)
                        self.assertEqual(told, behind(table, lot))
                        self.assertTrue(all(type(place) is int for place in told))

    def test_no_numbers_of_tables(self):
        for count in (1, 2, 3):
            family = Family([SIDE, UP, DOWN][:count])
            for thing in no_numbers(count):
                with self.subTest(count=count, thing=type(thing).__name__):
                    self.refused(BadNumber, "value", thing, made, family, thing, (0,))
                    self.refused(BadNumber, "value", thing, made, lot=(), number=thing, family=family)

    def test_no_lots(self):
        for tables in ((((1,),),), (SIDE,), (ROUND,), (((1,) * 4,) * 4,)):
            family = Family(tables)
            for thing in no_lots(family.many):
                with self.subTest(many=family.many, thing=type(thing).__name__):
                    self.refused(BadNumber, "value", thing, made, family, 0, thing)
                    self.refused(BadNumber, "value", thing, made, lot=thing, number=0, family=family)

    def test_of_two_the_number_counts_first(self):
        for thing in no_numbers(1):
            for lot in ([0], (1, 0), (2,), None):
                with self.subTest(thing=type(thing).__name__):
                    self.refused(BadNumber, "value", thing, made, Family([SIDE]), thing, lot)

    def test_a_refusal_is_a_growth_error(self):
        with self.assertRaises(GrowthError):
            made(Family([SIDE]), 0, (True,))

    def test_a_refused_list_stays_as_it_was(self):
        lot = [1, [0]]
        with self.assertRaises(BadNumber):
            made(Family([SIDE]), 0, lot)
        self.assertEqual(lot, [1, [0]])


class NoughtWordTest(unittest.TestCase):

    def test_the_example_of_the_document(self):
        self.assertEqual(nought_word(Family([((0, 1), (0, 0)), ((0, 0), (2, 0))])), (0, 0))

    def test_by_hand(self):
        self.assertIsNone(nought_word(Family([SIDE])))
        self.assertIsNone(nought_word(Family([ROUND])))
        self.assertEqual(nought_word(Family([((0,),)])), (0,))
        self.assertEqual(nought_word(Family([((1,),), ((0,),)])), (1,))
        self.assertEqual(nought_word(Family([SIDE, UP])), (1, 1))
        self.assertEqual(nought_word(Family([((0, 1, 1, 1), (0, 0, 1, 1), (0, 0, 0, 1), (0,) * 4)])), (0,) * 4)
        # Ahead of (1, 0), which is nought too.
        self.assertEqual(nought_word(Family([((1, 0), (0, 0)), ((0, 0), (0, 1))])), (0, 1))

    def test_by_going_through_all_words_of_few_numbers(self):
        lengths = set()
        for tables in looked_at():
            with self.subTest(tables=tables):
                told = nought_word(Family(tables))
                sizes = [item for long in range(6) for item in reckoning.sizes_of(tables, long).items()]
                wanted = [word for word, size in sizes if size == 0][:1]
                if wanted or told is None:
                    self.assertEqual([told] if told is not None else [], wanted)
                else:
                    self.assertGreater(len(told), 5)
                self.assertIs(told is None, () not in lots_of(tables))
                if told is not None:
                    self.assertIs(type(told), tuple)
                    self.assertEqual(reckoning.total(reckoning.multiplied(tables, told)), 0)
                    lengths.add(len(told))
        self.assertLessEqual({1, 2, 3, 4, 5}, lengths)

    def test_late_ones(self):
        for long, tables in LATE.items():
            told = nought_word(Family(tables))
            with self.subTest(tables=tables, told=told):
                self.assertTrue(all(size for count in range(long) for size in reckoning.sizes_of(tables, count).values()))
                wanted = [word for word, size in reckoning.sizes_of(tables, long).items() if size == 0][0]
                self.assertEqual(told, wanted)

    def test_by_name(self):
        self.assertEqual(nought_word(family=Family([UP])), (0, 0))


class LotsMadeTest(unittest.TestCase):

    def test_by_hand(self):
        self.assertEqual(lots_made(Family([UP])), ((), (0, 1), (1,)))
        self.assertEqual(lots_made(Family([SIDE])), ((0, 1),))
        self.assertEqual(lots_made(Family([UP, DOWN])), ((), (0,), (0, 1), (1,)))
        self.assertEqual(lots_made(Family([((0,),)])), ((), (0,)))
        self.assertEqual(lots_made(Family([((3,),)])), ((0,),))

    def test_by_what_words_make(self):
        for tables in looked_at():
            with self.subTest(tables=tables):
                told = lots_made(Family(tables))
                self.assertIs(type(told), tuple)
                self.assertEqual(list(told), sorted(lots_of(tables)))
                self.assertTrue(all(type(lot) is tuple and lot in all_lots(len(tables[0])) for lot in told))

    def test_the_lots_of_words_are_among_them(self):
        for tables in looked_at()[:200]:
            family = Family(tables)
            told = lots_made(family)
            seen = set()
            for long in range(5):
                for word in reckoning.words_of(tables, long):
                    lot = everything(tables)
                    for number in word:
                        lot = made(family, number, lot)
                    seen.add(lot)
                    # The fact: a product is nought exactly if its tables make () of the lot of all places.
                    self.assertIs(lot == (), reckoning.total(product(family, word)) == 0)
            self.assertLessEqual(seen, set(told))

    def test_by_name(self):
        self.assertEqual(lots_made(family=Family([SIDE])), ((0, 1),))


def good_papers():
    """List pairs of tables and a paper that holds, not only told ones."""
    many = [(tables, nought_paper(Family(tables))) for tables in looked_at()[:120]]
    many += [
        ((UP,), ("word", (0,) * 400)),
        ((SIDE, UP), ("word", (0, 1, 0, 1))),
        ((SIDE,), ("closed", ((0, 1), (1,)))),
        ((ROUND,), ("closed", ((0,), (0, 1, 2), (1,), (2,)))),
        ((ROUND,), ("closed", tuple(sorted(all_lots(3)))[1:])),
        ((((1, 1), (1, 1)),), ("closed", ((0,), (0, 1), (1,)))),
        ((((1,),),), ("closed", ((0,),))),
    ]
    return many


def others(part):
    """List what may stand instead of a part: near misses, and things of other types."""
    many = [None, True, False, "", "word", "closed", b"word", (), (0,), (0, 1), (1, 0), (0, 0), [], [0], {}, {0: 0}, {0}]
    many += [object(), Odd(), mock.ANY, int, -1, 0, 1, 2, 3, 4, 10 ** 999, (0,) * 401, (0,) * 400, nested(30), Family([SIDE])]
    many += [((),), ((0,),), ((0, 1),), ((0,), (0, 1)), ((0, 1), (0,)), ((0,), (0, 1), (1,)), (0, 1, 2), (0, 1, 2, 3)]
    return many + near_misses(part)


class PaperTest(unittest.TestCase):

    def judged(self, tables, thing):
        """Compare what is told of a thing with what the document says of it, and tell that."""
        family = Family(tables)
        self.assertIs(is_nought_paper(family, thing), shown(tables, thing))
        self.assertIs(is_closed(family, thing), closed(tables, thing))
        if type(thing) is tuple:
            for part in thing[:3]:
                self.assertIs(is_closed(family, part), closed(tables, part))
        return shown(tables, thing)

    def test_told_papers_hold(self):
        seen = set()
        for tables in looked_at():
            with self.subTest(tables=tables):
                told = nought_paper(Family(tables))
                self.assertIs(type(told), tuple)
                self.assertTrue(shown(tables, told))
                self.assertIs(is_nought_paper(Family(tables), told), True)
                self.assertEqual(told[0], "closed" if nought_word(Family(tables)) is None else "word")
                seen.add(told[0])
        self.assertEqual(seen, {"word", "closed"})

    def test_good_papers(self):
        for tables, thing in good_papers():
            with self.subTest(tables=tables, thing=str(thing)[:200]):
                self.assertTrue(self.judged(tables, thing))
                self.assertIs(is_closed(Family(tables), thing[1]), thing[0] == "closed")

    def test_papers_of_other_families(self):
        many = good_papers()
        for tables, _ in many[::3]:
            for _, thing in many[::2]:
                with self.subTest(tables=tables, thing=str(thing)[:200]):
                    self.judged(tables, thing)

    def test_things_of_any_kind(self):
        things = strange() + no_integers() + [0, -1, 10 ** 999, "word", "closed", [], (), nested(1), nested(50)]
        things += [["word", (0, 0)], ["closed", ((0, 1),)], {"word": (0, 0)}, {"word", (0, 0)}, ("word",), ("closed",)]
        things += [("word", (0, 0), ()), ("closed", ((0, 1),), ()), ("Word", (0, 0)), ("Closed", ((0, 1),)), ("", (0, 0))]
        things += [(Odd(), (0, 0)), (mock.ANY, ((0, 1),)), (b"word", (0, 0)), ((0, 0), "word"), ("words", (0, 0))]
        things += [("word", ((0, 1),)), ("closed", (0, 0)), ("closed", ()), ("word", ()), ("closed", ((),))]
        for tables in ((UP,), (UP, DOWN), (SIDE,)):
            for thing in things:
                with self.subTest(tables=tables, thing=type(thing).__name__):
                    self.assertIs(is_nought_paper(Family(tables), thing), False)
                    self.assertIs(is_closed(Family(tables), thing), False)

    def test_words(self):
        for word in ((0, 0), (0,) * 400, (1, 0, 0, 1), (0, 1, 1, 0)):
            self.assertIs(is_nought_paper(Family([UP, DOWN]), ("word", word)), True)
        wrong = [(), (0,), (0, 1), (0, 1) * 200, (0,) * 401, (0, 2), (0, -1), (0, False), [0, 0], "00", (0, (0,)), None]
        for word in wrong + strange():
            with self.subTest(word=type(word).__name__):
                self.assertIs(is_nought_paper(Family([UP, DOWN]), ("word", word)), False)

    def test_closed_lots(self):
        family = Family([ROUND])
        for thing in (((0, 1, 2),), ((0,), (0, 1, 2), (1,), (2,)), ((0, 1), (0, 1, 2), (0, 2), (1, 2))):
            self.assertIs(is_closed(family, thing), True)
        # One that is missing, out of order, twice, (), no lot, or not all places.
        wrong = [
            ((0,), (0, 1, 2), (1,)), ((0, 1, 2), (0,), (1,), (2,)), ((0, 1, 2), (0, 1, 2)), ((), (0, 1, 2)), (),
            ((0, 1, 2), (0, 1, 2, 3)), ((0,), (1,), (2,)), ([0, 1, 2],), [(0, 1, 2)], ((0, 1, True),), ((False, 1, 2),),
            ((0, 2, 1),), ((0, 1, 1, 2),), ((0, 1, 2), (0, 3)), ((0, 1, 2), 3), (3, (0, 1, 2)), ((0, 1, 2), None),
            ((0, 1, 2), (-1,)), ((-1,), (0, 1, 2)), "012", {(0, 1, 2)}, {(0, 1, 2): 0}, ((0, 1, 2),) * 4000,
        ]
        for thing in wrong + [(lot, (0, 1, 2)) for lot in strange()] + [((0, 1, 2), lot) for lot in strange()]:
            with self.subTest(thing=str(thing)[:200]):
                self.assertIs(is_closed(family, thing), False)

    def test_each_part_otherwise_at_any_depth(self):
        seen = set()
        for tables, thing in good_papers()[:50] + good_papers()[-7:]:
            for place in spots(thing):
                for part in others(part_at(thing, place)):
                    with self.subTest(tables=tables, place=place, part=type(part).__name__):
                        seen.add(self.judged(tables, put(thing, place, part)))
        self.assertEqual(seen, {True, False})

    def test_several_parts_otherwise(self):
        draw = random.Random(63)
        papers = good_papers()
        for count in range(3000):
            tables, thing = draw.choice(papers)
            thing = several_otherwise(draw, thing, others)
            with self.subTest(count=count, tables=tables):
                self.judged(tables, thing)

    def test_drawn_lots_of_lots(self):
        draw = random.Random(64)
        seen = set()
        for tables in looked_at()[:300]:
            lots = all_lots(len(tables[0]))
            for _ in range(6):
                thing = tuple(sorted(draw.sample(lots, draw.randrange(len(lots))) + [everything(tables)]))
                with self.subTest(tables=tables, thing=thing):
                    self.assertIs(is_closed(Family(tables), thing), closed(tables, thing))
                    self.assertIs(is_closed(Family(tables), thing[1:]), closed(tables, thing[1:]))
                    seen.add(closed(tables, thing))
        self.assertEqual(seen, {True, False})

    def test_what_was_passed_stays_as_it_was(self):
        for thing in (["word", [0, 0]], ("word", [0, [0]]), ("closed", [[0], [0, 1]]), [[0, 1]], {"closed": [[]]}):
            before = copy.deepcopy(thing)
            is_nought_paper(Family([UP]), thing)
            is_closed(Family([UP]), thing)
            self.assertEqual(thing, before)

    def test_by_names(self):
        self.assertIs(is_nought_paper(thing=("word", (0, 0)), family=Family([UP])), True)
        self.assertIs(is_closed(thing=((0, 1),), family=Family([SIDE])), True)
        self.assertEqual(nought_paper(family=Family([UP])), ("word", (0, 0)))
