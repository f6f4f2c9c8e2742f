"""Tests of families: point [10], points [0] to [4] for them, and the interface under families.py."""

import operator
import unittest
from unittest import mock

from growthkinds.errors import BadNumber, BadTables, GrowthError
from growthkinds.families import Family
from samples import (
    DOWN, FIVE, FOUR, PLAIN, ROUND, SIDE, TURN, UP, AlikeCase, Odd, RefusalCase, no_integers, no_numbers, no_tables,
    operators, strange,
)


class MakingTest(RefusalCase):

    def test_lists_and_tuples(self):
        for tables in ([SIDE], [UP, DOWN], [SIDE, UP, DOWN], [FOUR], [ROUND, ROUND, ROUND], [((0,),)]):
            for made in (Family(tables), Family(tuple(tables)), Family(tables=tables)):
                with self.subTest(tables=tables):
                    self.assertIs(type(made.tables), tuple)
                    self.assertEqual(made.tables, tuple(tables))
                    self.assertEqual(made.many, len(tables[0]))
                    self.assertIs(type(made.many), int)
                    self.assertEqual(len(made), len(tables))

    def test_the_families_of_the_document(self):
        side = Family([((1, 3), (0, 1))])
        two = Family([((0, 1), (0, 0)), ((0, 0), (2, 0))])
        self.assertEqual((side.tables, side.many, len(side)), ((((1, 3), (0, 1)),), 2, 1))
        self.assertEqual((two.tables, two.many, len(two)), ((((0, 1), (0, 0)), ((0, 0), (2, 0))), 2, 2))

    def test_each_number_of_places_and_of_tables(self):
        for many in range(1, 5):
            for count in range(1, 4):
                with self.subTest(many=many, count=count):
                    made = Family([((1,) * many,) * many] * count)
                    self.assertEqual((made.many, len(made)), (many, count))

    def test_each_entry_from_0_to_9(self):
        for entry in range(10):
            with self.subTest(entry=entry):
                self.assertEqual(Family([((entry,),)]).tables, (((entry,),),))

    def test_no_list_and_no_tuple(self):
        for thing in strange() + [0, 1, -1, 10 ** 999, {SIDE: SIDE}, {SIDE}, frozenset([SIDE]), iter([SIDE])]:
            with self.subTest(thing=type(thing).__name__):
                self.refused(BadTables, "place", None, Family, thing)
                self.refused(BadTables, "place", None, Family, tables=thing)

    def test_a_family_is_no_list_of_tables(self):
        self.refused(BadTables, "place", None, Family, Family([SIDE]))

    def test_no_tables_and_more_than_three(self):
        for tables in ([], [SIDE] * 4, [SIDE] * 5, [SIDE] * 7500, [None] * 4, [SIDE, SIDE, SIDE, None]):
            with self.subTest(count=len(tables)):
                self.refused(BadTables, "place", None, Family, tables)
                self.refused(BadTables, "place", None, Family, tuple(tables))

    def test_the_first_item_that_is_no_table(self):
        for thing in no_tables():
            with self.subTest(thing=type(thing).__name__):
                self.refused(BadTables, "place", 0, Family, [thing])
                self.refused(BadTables, "place", 0, Family, (thing, thing, thing))
                self.refused(BadTables, "place", 0, Family, [thing, SIDE])
                self.refused(BadTables, "place", 1, Family, [SIDE, thing])
                self.refused(BadTables, "place", 1, Family, (((1,),), thing, SIDE))
                self.refused(BadTables, "place", 1, Family, [ROUND, thing, ROUND])
                self.refused(BadTables, "place", 2, Family, (SIDE, UP, thing))

    def test_unlike_numbers_of_places(self):
        for one, other in ((SIDE, ROUND), (ROUND, SIDE), (((1,),), FOUR), (FOUR, ((1,),)), (FOUR, ROUND)):
            with self.subTest(one=one, other=other):
                self.refused(BadTables, "place", 1, Family, [one, other])
                self.refused(BadTables, "place", 1, Family, (one, other, one))
                self.refused(BadTables, "place", 1, Family, [one, other, other])
                self.refused(BadTables, "place", 1, Family, [one, other, None])
                self.refused(BadTables, "place", 2, Family, [one, one, other])

    def test_five_places_beside_four(self):
        self.refused(BadTables, "place", 0, Family, [FIVE])
        self.refused(BadTables, "place", 0, Family, [FIVE, FIVE])
        self.refused(BadTables, "place", 1, Family, [FOUR, FIVE])

    def test_a_refusal_is_a_growth_error(self):
        with self.assertRaises(GrowthError):
            Family([])

    def test_the_list_that_was_passed(self):
        tables = [UP, DOWN]
        made = Family(tables)
        self.assertEqual(tables, [UP, DOWN])
        tables[0] = SIDE
        tables.append(None)
        self.assertEqual(made.tables, (UP, DOWN))
        tables.clear()
        self.assertEqual((made.tables, made.many, len(made)), ((UP, DOWN), 2, 2))

    def test_a_refused_list_stays_as_it_was(self):
        tables = [SIDE, [[1]], 5]
        with self.assertRaises(BadTables):
            Family(tables)
        self.assertEqual(tables, [SIDE, [[1]], 5])


class EqualTest(AlikeCase):

    def test_the_same_tables_in_the_same_order(self):
        self.alike(Family([UP, DOWN]), Family((UP, DOWN)), True)
        self.alike(Family([SIDE]), Family([((1, 3), (0, 1))]), True)
        same = Family([FOUR, FOUR, FOUR])
        self.alike(same, same, True)

    def test_other_tables(self):
        family = Family([UP, DOWN])
        for tables in ([DOWN, UP], [UP], [DOWN], [UP, DOWN, DOWN], [UP, UP], [UP, SIDE], [((0, 1), (0, 0)), TURN]):
            with self.subTest(tables=tables):
                self.alike(family, Family(tables), False)
        self.alike(Family([((0,),)]), Family([((0, 0), (0, 0))]), False)
        self.alike(Family([((0,),)]), Family([((1,),)]), False)

    def test_other_values(self):
        family = Family([SIDE])
        for thing in (None, True, 0, 1, "", (), (SIDE,), [SIDE], SIDE, {}, {SIDE: 1}, object(), Family, 10 ** 999):
            with self.subTest(thing=type(thing).__name__):
                self.alike(family, thing, False)

    def test_what_only_looks_like_a_family(self):
        family = Family([SIDE])
        for thing in (mock.ANY, Odd(), mock.Mock(tables=family.tables, many=2)):
            with self.subTest(thing=type(thing).__name__):
                self.assertIs(family == thing, False)
                self.assertIs(family != thing, True)


class OperatorTest(unittest.TestCase):

    def test_operators_raise_type_error(self):
        family = Family([UP, DOWN])
        for other in (Family([UP, DOWN]), family, None, 1, 0, True, "a", "", b"a", (), (UP,), [], [UP], {}, {1}, object()):
            for act in operators():
                with self.subTest(act=act.__name__, other=type(other).__name__):
                    with self.assertRaises(TypeError):
                        act(family, other)
                    with self.assertRaises(TypeError):
                        act(other, family)

    def test_signs_raise_type_error(self):
        family = Family([UP])
        for act in (operator.neg, operator.pos, operator.invert, abs):
            with self.subTest(act=act.__name__), self.assertRaises(TypeError):
                act(family)

    def test_iteration_raises_type_error(self):
        family = Family([UP, DOWN])
        for act in (iter, list, tuple, set, sorted, max, sum, any, all, enumerate, reversed, zip, dict):
            with self.subTest(act=act.__name__), self.assertRaises(TypeError):
                act(family)
        with self.assertRaises(TypeError):
            for _ in family:
                pass
        with self.assertRaises(TypeError):
            one, other = family

    def test_in_raises_type_error(self):
        family = Family([UP, DOWN])
        for thing in (UP, 0, None, "a", family, (), object()):
            with self.subTest(thing=type(thing).__name__):
                with self.assertRaises(TypeError):
                    thing in family
                with self.assertRaises(TypeError):
                    thing not in family

    def test_items_raise_type_error(self):
        family = Family([UP, DOWN])
        for at in (0, -1, "tables", slice(None), None):
            with self.subTest(at=at), self.assertRaises(TypeError):
                family[at]


class WithTableTest(RefusalCase):

    def test_a_further_table(self):
        one = Family([UP])
        two = one.with_table(DOWN)
        three = two.with_table(table=UP)
        self.assertIs(type(two), Family)
        self.assertEqual((two.tables, two.many), ((UP, DOWN), 2))
        self.assertEqual((three.tables, three.many), ((UP, DOWN, UP), 2))
        self.assertEqual(Family([((0,),)]).with_table(((9,),)).tables, (((0,),), ((9,),)))

    def test_the_family_stays_as_it_was(self):
        one = Family([UP])
        one.with_table(DOWN)
        self.assertEqual((one.tables, one.many, len(one)), ((UP,), 2, 1))

    def test_no_table(self):
        for tables in ([UP], [UP, DOWN], [ROUND], [((1,),)]):
            family = Family(tables)
            for thing in no_tables():
                with self.subTest(count=len(tables), thing=type(thing).__name__):
                    self.refused(BadTables, "place", len(tables), family.with_table, thing)
                    self.refused(BadTables, "place", len(tables), family.with_table, table=thing)
            self.assertEqual(family, Family(tables))

    def test_another_number_of_places(self):
        family = Family([UP, DOWN])
        for table in (((1,),), ROUND, FOUR, FIVE):
            with self.subTest(table=table):
                self.refused(BadTables, "place", 2, family.with_table, table)
        self.refused(BadTables, "place", 1, Family([FOUR]).with_table, FIVE)

    def test_three_already(self):
        family = Family([UP, DOWN, UP])
        for table in (UP, DOWN, SIDE):
            self.refused(BadTables, "place", None, family.with_table, table)
        self.assertEqual(family.tables, (UP, DOWN, UP))

    def test_a_wrong_table_counts_ahead_of_three_already(self):
        family = Family([UP, DOWN, UP])
        for thing in no_tables() + [((1,),), ROUND, FOUR]:
            with self.subTest(thing=type(thing).__name__):
                self.refused(BadTables, "place", 3, family.with_table, thing)


class WithoutTableTest(RefusalCase):

    def test_each_table(self):
        family = Family([UP, DOWN, SIDE])
        self.assertEqual(family.without_table(0), Family([DOWN, SIDE]))
        self.assertEqual(family.without_table(1), Family([UP, SIDE]))
        self.assertEqual(family.without_table(number=2), Family([UP, DOWN]))
        self.assertEqual(Family([UP, DOWN]).without_table(0), Family([DOWN]))
        self.assertEqual(Family([UP, DOWN]).without_table(1), Family([UP]))

    def test_one_of_two_alike_tables(self):
        self.assertEqual(Family([UP, UP]).without_table(1), Family([UP]))

    def test_the_kind_of_the_result(self):
        less = Family([ROUND, ROUND]).without_table(0)
        self.assertIs(type(less), Family)
        self.assertEqual((less.tables, less.many, len(less)), ((ROUND,), 3, 1))

    def test_the_family_stays_as_it_was(self):
        family = Family([UP, DOWN])
        family.without_table(0)
        self.assertEqual((family.tables, len(family)), ((UP, DOWN), 2))

    def test_no_number_of_a_table(self):
        for tables in ([UP, DOWN], [UP, DOWN, SIDE]):
            family = Family(tables)
            for thing in no_numbers(len(tables)):
                with self.subTest(count=len(tables), thing=type(thing).__name__):
                    self.refused(BadNumber, "value", thing, family.without_table, thing)
                    self.refused(BadNumber, "value", thing, family.without_table, number=thing)
            self.assertEqual(family, Family(tables))

    def test_the_only_table(self):
        family = Family([UP])
        for thing in [0] + no_numbers(1):
            with self.subTest(thing=type(thing).__name__):
                self.refused(BadNumber, "value", thing, family.without_table, thing)
        self.assertEqual(family.tables, (UP,))


class ChangedTest(RefusalCase):

    def test_each_entry_of_each_table(self):
        family = Family([UP, DOWN, PLAIN])
        for number in range(3):
            for row in range(2):
                for place in range(2):
                    with self.subTest(number=number, row=row, place=place):
                        wanted = [[list(entries) for entries in table] for table in family.tables]
                        wanted[number][row][place] = 7
                        made = family.changed(number, row, place, 7)
                        self.assertEqual(made, Family([tuple([tuple(e) for e in table]) for table in wanted]))

    def test_by_hand(self):
        self.assertEqual(Family([PLAIN]).changed(0, 0, 1, 9).tables, (((1, 9), (3, 4)),))
        self.assertEqual(Family([PLAIN]).changed(0, 1, 0, 0).tables, (((1, 2), (0, 4)),))
        self.assertEqual(Family([UP, DOWN]).changed(1, 1, 1, 5).tables, (UP, ((0, 0), (2, 5))))
        self.assertEqual(Family([FOUR]).changed(0, 3, 2, 0).tables, (FOUR[:3] + ((9, 9, 0, 9),),))
        self.assertEqual(Family([((0,),)]).changed(0, 0, 0, 9).tables, (((9,),),))

    def test_by_names(self):
        family = Family([UP, DOWN])
        self.assertEqual(family.changed(entry=6, place=1, row=0, number=1).tables, (UP, ((0, 6), (2, 0))))
        self.assertEqual(family.changed(0, 1, place=0, entry=3).tables, (((0, 1), (3, 0)), DOWN))

    def test_perhaps_the_same_entry(self):
        family = Family([UP, DOWN])
        self.assertEqual(family.changed(1, 1, 0, 2), family)

    def test_the_kind_of_the_result(self):
        made = Family([UP, DOWN]).changed(0, 0, 0, 1)
        self.assertIs(type(made), Family)
        self.assertIs(type(made.tables), tuple)
        self.assertIs(type(made.tables[0]), tuple)
        self.assertIs(type(made.tables[0][0]), tuple)
        self.assertEqual((made.many, len(made)), (2, 2))

    def test_the_family_stays_as_it_was(self):
        family = Family([UP, UP])
        family.changed(0, 0, 0, 9)
        self.assertEqual(family.tables, (((0, 1), (0, 0)), ((0, 1), (0, 0))))

    def test_each_argument_wrong(self):
        family = Family([ROUND, ROUND])
        for at, limit in enumerate((2, 3, 3, 10)):
            for thing in no_numbers(limit):
                args = [1, 2, 0, 4]
                args[at] = thing
                with self.subTest(at=at, thing=type(thing).__name__):
                    self.refused(BadNumber, "value", thing, family.changed, *args)
        self.assertEqual(family, Family([ROUND, ROUND]))

    def test_several_wrong_the_first_counts(self):
        family = Family([UP, DOWN])
        marks = [["number"], ["row"], ["place"], ["entry"]]
        right = [1, 0, 1, 4]
        for wrong in range(1, 16):
            args = [marks[at] if wrong >> at & 1 else right[at] for at in range(4)]
            first = [marks[at] for at in range(4) if wrong >> at & 1][0]
            with self.subTest(wrong=wrong):
                self.refused(BadNumber, "value", first, family.changed, *args)
        self.refused(BadNumber, "value", 2, family.changed, 2, -1, True, 10)
        self.refused(BadNumber, "value", -1, family.changed, 1, -1, True, 10)
        self.refused(BadNumber, "value", True, family.changed, 1, 1, True, 10)
        self.refused(BadNumber, "value", 10, family.changed, 1, 1, 1, 10)

    def test_the_only_table_may_be_changed(self):
        self.assertEqual(Family([((1,),)]).changed(0, 0, 0, 0), Family([((0,),)]))

    def test_places_are_those_of_the_family(self):
        for many in range(1, 5):
            family = Family([((0,) * many,) * many])
            family.changed(0, many - 1, many - 1, 1)
            self.refused(BadNumber, "value", many, family.changed, 0, many, 0, 1)
            self.refused(BadNumber, "value", many, family.changed, 0, 0, many, 1)

    def test_wrong_things_are_no_integers(self):
        family = Family([UP])
        for thing in no_integers():
            with self.subTest(thing=type(thing).__name__):
                self.refused(BadNumber, "value", thing, family.changed, 0, 0, 0, thing)
