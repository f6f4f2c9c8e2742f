"""Tests of struck entries: points [12] to [15], and the interface under strikes.py."""

import random
import unittest
from itertools import combinations

import reckoning
from drawn import POWERS, by_hand, drawn
from growthkinds.errors import BadKind, BadNumber, GrowthError
from growthkinds.families import Family
from growthkinds.kinds import kind, no_higher
from growthkinds.strikes import binding, fewest, struck
from samples import DOWN, FOUR, PLAIN, ROUND, SIDE, UP, Odd, RefusalCase, nested, no_integers, no_numbers, strange

KINDS = [("nil",)] + [("power", power) for power in (0, 1, 2, 3, 4, 10 ** 999)] + [("factor",)]


def all_cells(tables):
    """List all triples (table, row, place) in ascending order."""
    places = range(len(tables[0]))
    return [(number, row, place) for number in range(len(tables)) for row in places for place in places]


def filled(tables):
    """List the triples of the entries above 0."""
    return [(number, row, place) for number, row, place in all_cells(tables) if tables[number][row][place]]


def without(tables, cells):
    """Put 0 at some triples."""
    lists = [[list(row) for row in table] for table in tables]
    for number, row, place in cells:
        lists[number][row][place] = 0
    return tuple(tuple(tuple(row) for row in table) for table in lists)


def rank(told):
    """Order the kinds."""
    return (["nil", "power", "factor"].index(told[0]), told[1:])


def ranks_without(tables):
    """For each lot of at most two triples of entries above 0, the fewest first, how high the kind is without them."""
    lots = [cells for count in range(3) for cells in combinations(filled(tables), count)]
    return {cells: rank(reckoning.kind_of(without(tables, cells))) for cells in lots}


def no_cells(tables):
    """Make values of many kinds, none of which is an ascending tuple of different triples."""
    count, many = len(tables), len(tables[0])
    good = all_cells(tables)
    wrong = [thing for thing in no_integers() if not (type(thing) is tuple and thing == ())]
    wrong += [0, 1, -1, 10 ** 999, [], [(0, 0, 0)], nested(1), nested(2), nested(50), {(0, 0, 0)}, {(0, 0, 0): 0}, "000"]
    wrong += [(0, 0, 0), ("000",), (b"000",), ([0, 0, 0],), ((0, 0),), ((0, 0, 0, 0),), ((),), ((0,),), (((0, 0, 0),),)]
    wrong += [({0: 0},), (range(3),), (Odd(),), ((0, 0, 0), None), (None, (0, 0, 0)), ((0, 0, 0), [0, 0, 1]), iter([(0, 0, 0)])]
    # Out of order, or something twice.
    wrong += [tuple(good) + (good[-1],), (good[0],) + tuple(good), ((0, 0, 0),) * 2, ((0, 0, 0),) * 3000]
    if len(good) > 1:
        wrong += [tuple(good[::-1]), (good[1], good[0]), (good[0], good[-1], good[0]), (good[-1], good[0])]
    for thing in no_numbers(count):
        wrong += [((thing, 0, 0),), ((0, 0, 0), (thing, 0, 0))]
    for thing in no_numbers(many):
        wrong += [((0, thing, 0),), ((0, 0, thing),), ((0, 0, 0), (0, thing, 0)), ((0, 0, 0), (0, 0, thing))]
    return wrong + [((False, False, False),), ((0, 0, False),), ((0, False, 0),), ((False, 0, 0),)]


class StruckTest(RefusalCase):

    def test_by_hand(self):
        family = Family([SIDE, PLAIN])
        self.assertEqual(struck(family, ()), family)
        self.assertEqual(struck(family, ((0, 0, 1),)), Family([((1, 0), (0, 1)), PLAIN]))
        self.assertEqual(struck(family, ((0, 0, 0), (1, 1, 0), (1, 1, 1))), Family([((0, 3), (0, 1)), ((1, 2), (0, 0))]))
        self.assertEqual(struck(family, ((0, 1, 0),)), family)
        self.assertEqual(struck(Family([((9,),)]), ((0, 0, 0),)), Family([((0,),)]))
        self.assertEqual(struck(Family([FOUR]), tuple(all_cells((FOUR,)))), Family([((0,) * 4,) * 4]))

    def test_drawn_cells(self):
        draw = random.Random(91)
        for tables in [tables for tables, _ in by_hand()] + drawn(92, 200):
            cells = all_cells(tables)
            for _ in range(5):
                some = tuple(sorted(draw.sample(cells, draw.randrange(len(cells) + 1))))
                with self.subTest(tables=tables, cells=some):
                    family = Family(tables)
                    told = struck(family, some)
                    self.assertIs(type(told), Family)
                    self.assertEqual((told.tables, told.many), (without(tables, some), len(tables[0])))
                    self.assertEqual((family.tables, family.many), (tables, len(tables[0])))

    def test_no_cells(self):
        for tables in ((((1,),),), (SIDE,), (SIDE, UP, DOWN), (ROUND, ROUND), (FOUR,) * 3):
            for thing in no_cells(tables):
                with self.subTest(tables=tables, thing=str(thing)[:100]):
                    self.refused(BadNumber, "value", thing, struck, Family(tables), thing)
                    self.refused(BadNumber, "value", thing, struck, cells=thing, family=Family(tables))

    def test_a_refusal_is_a_growth_error(self):
        with self.assertRaises(GrowthError):
            struck(Family([SIDE]), ((0, 0, 2),))

    def test_a_refused_list_stays_as_it_was(self):
        cells = [[0, 0, 0], (1,)]
        with self.assertRaises(BadNumber):
            struck(Family([SIDE]), cells)
        self.assertEqual(cells, [[0, 0, 0], (1,)])

    def test_by_names(self):
        self.assertEqual(struck(cells=((0, 0, 1),), family=Family([SIDE])), Family([((1, 0), (0, 1))]))


class FewestTest(RefusalCase):

    def families(self):
        """List tables of which some strikes make each kind, and some none."""
        return [tables for tables, _ in by_hand() if len(filled(tables)) < 13] + drawn(93, 110)

    def test_by_hand(self):
        self.assertEqual(fewest(Family([SIDE]), ("power", 1)), ())
        self.assertEqual(fewest(Family([SIDE]), ("factor",)), ())
        self.assertEqual(fewest(Family([SIDE]), ("power", 0)), ((0, 0, 0),))
        self.assertEqual(fewest(Family([SIDE]), ("nil",)), ((0, 0, 0), (0, 1, 1)))
        self.assertEqual(fewest(Family([UP, DOWN]), ("nil",)), ((0, 0, 1),))
        self.assertEqual(fewest(Family([UP, DOWN]), ("power", 9)), ((0, 0, 1),))
        self.assertEqual(fewest(Family([ROUND]), ("nil",)), ((0, 0, 1),))
        self.assertEqual(fewest(Family([PLAIN]), ("nil",)), None)
        self.assertEqual(fewest(Family([PLAIN]), ("power", 0)), ((0, 0, 1), (0, 1, 1)))
        self.assertEqual(fewest(Family([((0,),)]), ("nil",)), ())
        self.assertEqual(fewest(Family([((5,),), ((5,),)]), ("nil",)), ((0, 0, 0), (1, 0, 0)))
        self.assertEqual(fewest(Family([((5,),)] * 3), ("nil",)), None)

    def test_by_trying_all_lots_of_at_most_two(self):
        counts = set()
        for tables in self.families():
            ranks = ranks_without(tables)
            for wanted in KINDS:
                with self.subTest(tables=tables, wanted=wanted):
                    first = [cells for cells, one in ranks.items() if one <= rank(wanted)][:1]
                    told = fewest(Family(tables), wanted)
                    self.assertEqual(told, first[0] if first else None)
                    self.assertIn(type(told), (tuple, type(None)))
                    counts.add((wanted[0], None if told is None else len(told)))
        few = {(word, count) for word in ("nil", "power") for count in (0, 1, 2, None)}
        self.assertEqual(counts, few | {("factor", 0)})

    def test_what_is_struck_is_of_the_told_kind(self):
        for tables in drawn(94, 60) + [tables for _, tables in POWERS]:
            for wanted in KINDS[:4]:
                family = Family(tables)
                told = fewest(family, wanted)
                if told is not None:
                    with self.subTest(tables=tables, wanted=wanted):
                        self.assertIs(no_higher(kind(struck(family, told)), wanted), True)
                        self.assertLessEqual(set(told), set(filled(tables)))

    def test_no_kinds(self):
        wrong = strange() + no_integers() + [0, (), [], "nil", ["nil"], ["power", 0], ("Nil",), ("nil", 0), ("power",)]
        wrong += [("factor", 0), ("power", -1), ("power", True), ("power", "1"), ("power", 0, ()), (Odd(),), (b"nil",)]
        wrong += [("power", thing) for thing in no_integers()] + [("power", -10 ** 999), nested(50), ("factor", "nil")]
        for tables in ([SIDE], [UP, DOWN], [((0,),)]):
            for thing in wrong:
                with self.subTest(thing=str(thing)[:100]):
                    self.refused(BadKind, "value", thing, fewest, Family(tables), thing)
                    self.refused(BadKind, "value", thing, fewest, kind=thing, family=Family(tables))

    def test_a_refusal_is_a_growth_error(self):
        with self.assertRaises(GrowthError):
            fewest(Family([SIDE]), None)

    def test_by_names(self):
        self.assertEqual(fewest(kind=("power", 0), family=Family([SIDE])), ((0, 0, 0),))


class BindingTest(unittest.TestCase):

    def test_by_hand(self):
        self.assertEqual(binding(Family([SIDE])), ((0, 0, 0), (0, 0, 1), (0, 1, 1)))
        self.assertEqual(binding(Family([UP])), ())
        self.assertEqual(binding(Family([UP, DOWN])), ((0, 0, 1), (1, 1, 0)))
        self.assertEqual(binding(Family([UP, UP, DOWN])), ((2, 1, 0),))
        self.assertEqual(binding(Family([ROUND])), ((0, 0, 1), (0, 1, 2), (0, 2, 0)))
        self.assertEqual(binding(Family([PLAIN])), ())
        self.assertEqual(binding(Family([((2,),), ((1,),)])), ((0, 0, 0),))

    def test_by_striking_each_entry_by_itself(self):
        seen = set()
        for tables in [tables for tables, _ in by_hand()] + drawn(95, 250):
            now = rank(reckoning.kind_of(tables))
            with self.subTest(tables=tables):
                told = binding(Family(tables))
                self.assertIs(type(told), tuple)
                cells = filled(tables)
                wanted = [cell for cell in cells if rank(reckoning.kind_of(without(tables, [cell]))) < now]
                self.assertEqual(list(told), wanted)
                seen.add((now[0], len(wanted) == 0, len(wanted) == len(cells)))
        # Of what is not nil there may be none, some or all that bind.
        self.assertLessEqual({(at, *some) for at in (1, 2) for some in ((True, False), (False, False), (False, True))}, seen)

    def test_by_name(self):
        self.assertEqual(binding(family=Family([SIDE])), ((0, 0, 0), (0, 0, 1), (0, 1, 1)))
