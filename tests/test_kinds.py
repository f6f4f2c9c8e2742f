"""Tests of kinds and their order, and that told papers hold: points [13] to [16], and the interface under kinds.py."""

import unittest
from collections import Counter
from unittest import mock

import reckoning
from drawn import FACTOR, LEVEL, NIL, POWERS, by_hand, drawn
from growthkinds.errors import BadKind, GrowthError
from growthkinds.families import Family
from growthkinds.kinds import check, kind, no_higher, paper
from growthkinds.links import double_word
from samples import DOWN, SIDE, UP, Odd, RefusalCase, nested, no_numbers, strange

KINDS = [("nil",)] + [("power", power) for power in (0, 1, 2, 3, 4, 9, 10, 399, 10 ** 998, 10 ** 999)] + [("factor",)]


def looked_at():
    """List the tables of the families that are looked at: those made by hand, and many drawn ones."""
    return [tables for tables, _ in by_hand()] + drawn(21, 1500)


def exactly(told):
    """Tell the types of a kind's parts."""
    return (type(told),) + tuple(type(part) for part in told)


class KindTest(unittest.TestCase):

    def test_the_examples_of_the_document(self):
        self.assertEqual(kind(Family([((1, 3), (0, 1))])), ("power", 1))
        self.assertEqual(kind(Family([((0, 1), (0, 0)), ((0, 0), (2, 0))])), ("factor",))

    def test_by_hand(self):
        for tables, wanted in by_hand():
            with self.subTest(tables=tables):
                told = kind(Family(tables))
                self.assertEqual(told, wanted)
                self.assertEqual(exactly(told), exactly(wanted))

    def test_the_order_of_the_tables_and_alike_ones_change_nothing(self):
        for tables, wanted in by_hand():
            with self.subTest(tables=tables):
                self.assertEqual(kind(Family(tables[::-1])), wanted)
                self.assertEqual(kind(Family((tables + tables)[:3])), wanted)

    def test_the_tables_turned_over(self):
        for tables in looked_at()[:400]:
            with self.subTest(tables=tables):
                turned = tuple(tuple(zip(*table)) for table in tables)
                self.assertEqual(kind(Family(turned)), kind(Family(tables)))

    def test_by_the_words_of_the_document(self):
        seen = Counter()
        for tables in looked_at():
            with self.subTest(tables=tables):
                told = kind(Family(tables))
                self.assertEqual(told, reckoning.kind_of(tables))
                seen[told] += 1
        for each in [("nil",), ("power", 0), ("power", 1), ("power", 2), ("power", 3), ("factor",)]:
            self.assertGreaterEqual(seen[each], 3, each)

    def test_by_how_one_table_grows(self):
        # By doubling a length that all periods divide, what grows as a power d gets close to d bits more.
        for tables in [(table,) for tables in looked_at() for table in tables[:1]][:600]:
            with self.subTest(tables=tables):
                result = tables[0]
                for _ in range(11):
                    result = reckoning.times(result, result)
                cubed = reckoning.times(reckoning.times(result, result), result)
                one = reckoning.total(cubed)
                other = reckoning.total(reckoning.times(cubed, cubed))
                told = kind(Family(tables))
                if one == 0:
                    self.assertEqual(told, ("nil",))
                elif other.bit_length() > one.bit_length() + 100:
                    self.assertEqual(told, ("factor",))
                else:
                    # How often twice the power stands in it, rounded.
                    power = min(range(6), key=lambda d: abs(other - one * 2 ** d))
                    self.assertEqual(told, ("power", power))

    def test_what_together_only_doubles(self):
        for tables in [(UP, DOWN), (((1, 1), (0, 0)), ((1, 0), (1, 0))), (((1, 1), (0, 1)), ((1, 0), (1, 1)))]:
            with self.subTest(tables=tables):
                self.assertEqual(kind(Family(tables)), ("factor",))
                for table in tables:
                    self.assertNotEqual(kind(Family([table])), ("factor",))

    def test_a_table_more_makes_no_lower_kind(self):
        for tables in looked_at()[:400]:
            for table in tables:
                with self.subTest(tables=tables, table=table):
                    self.assertIs(no_higher(kind(Family([table])), kind(Family(tables))), True)

    def test_by_name(self):
        self.assertEqual(kind(family=Family([SIDE])), ("power", 1))


class FactTest(unittest.TestCase):

    def test_all_long_products_of_nil_families_are_nought_and_of_no_others(self):
        for tables in looked_at()[:300]:
            many = len(tables[0])
            with self.subTest(tables=tables):
                for long in range(many, 5):
                    nought = reckoning.greatest(tables, long) == 0
                    self.assertIs(nought, kind(Family(tables)) == ("nil",))

    def test_what_grows_by_a_factor_doubles_at_each_so_many_steps(self):
        for tables in FACTOR + drawn(22, 150):
            family = Family(tables)
            words = [double_word(family, place) for place in range(family.many)]
            for word in words:
                if word is not None:
                    with self.subTest(tables=tables, word=word):
                        self.assertEqual(kind(family), ("factor",))
                        for long in range(5):
                            self.assertGreaterEqual(reckoning.greatest(tables, long), 2 ** (long // len(word)))
                        for times in range(1, 6):
                            self.assertGreaterEqual(reckoning.total(reckoning.multiplied(tables, word * times)), 2 ** times)

    def test_what_grows_as_a_power_grows_so_by_its_paper(self):
        for tables in [tables for _, tables in POWERS] + drawn(23, 600):
            _, *parts = paper(Family(tables))
            if kind(Family(tables))[0] == "power":
                power, triples, joins = parts
                for times in range(1, 9):
                    with self.subTest(tables=tables, times=times):
                        word = ()
                        for at, triple in enumerate(triples):
                            word += triple[2] * times + (joins[at] if at < len(joins) else ())
                        self.assertGreaterEqual(reckoning.total(reckoning.multiplied(tables, word)), times ** power)

    def test_finitely_many_products_exactly_up_to_power_0(self):
        for tables in drawn(24, 250):
            with self.subTest(tables=tables):
                finite = reckoning.all_products(tables, 900) is not None
                self.assertIs(finite, no_higher(kind(Family(tables)), ("power", 0)))


class PaperTest(unittest.TestCase):

    def test_each_told_paper_holds(self):
        for tables in looked_at():
            family = Family(tables)
            with self.subTest(tables=tables):
                told = paper(family)
                self.assertEqual(reckoning.verdict(tables, told), "holds")
                self.assertEqual(check(family, told), told[0])
                self.assertEqual(kind(family), told[:2] if told[0] == "power" else told[:1])

    def test_words_of_told_papers_have_at_most_300_numbers(self):
        for tables in looked_at():
            told = paper(Family(tables))
            words = [told[2]] if told[0] == "factor" else []
            if told[0] == "power":
                words = [triple[2] for triple in told[2]] + list(told[3])
            for word in words:
                self.assertLessEqual(len(word), 300)

    def test_with_just_one_of_the_three_words(self):
        for tables in NIL:
            self.assertEqual(paper(Family(tables))[0], "nil")
        for tables in LEVEL + [tables for _, tables in POWERS]:
            self.assertEqual(paper(Family(tables))[0], "power")
        for tables in FACTOR:
            self.assertEqual(paper(Family(tables))[0], "factor")

    def test_by_hand(self):
        self.assertEqual(paper(Family([((1,),)])), ("power", 0, (), ()))
        self.assertEqual(paper(Family([SIDE])), ("power", 1, ((0, 1, (0,)),), ()))
        self.assertEqual(paper(Family([((0,),), ((2,),)])), ("factor", 0, (1,)))
        word, heights = paper(Family([UP]))
        self.assertEqual(word, "nil")
        self.assertGreater(heights[0], heights[1])

    def test_by_name(self):
        self.assertEqual(paper(family=Family([SIDE])), ("power", 1, ((0, 1, (0,)),), ()))


def no_kinds():
    """Make values of many kinds, none of which is a kind."""
    many = strange() + [0, 1, -1, 10 ** 999, (), [], ["nil"], ["power", 0], ["factor"], "nil", "power", "factor"]
    many += [nested(1), nested(2), nested(50), ("nil", 0), ("nil", ()), ("nil", "nil"), ("factor", 0), ("factor", 0, (0,))]
    many += [("power",), ("power", 0, ()), ("power", 0, (), ()), ("power", 0, 0), ("nil", "power", "factor")]
    many += [("Nil",), ("NIL",), ("",), ("nil ",), (" nil",), ("n",), ("il",), ("nilpower",), ("Power", 0), ("factors",)]
    many += [("Power", 0), ("", 0), (0, "power"), (0,), (0, 0), (("nil",),), (["nil"],), (("power", 0),), (b"nil",)]
    many += [("nil", "factor"), ("factor", "nil"), ("factor", ("nil",)), {"nil"}, {"nil": 0}, frozenset(["nil"])]
    many += [(thing,) for thing in strange()] + [(thing, 0) for thing in strange()]
    many += [("power", thing) for thing in no_numbers(10 ** 998) if thing not in (10 ** 998, 10 ** 998 + 1, 10 ** 999)]
    return many + [("power", -1), ("power", -(10 ** 999)), ("power", mock.ANY), ("power", Odd())]


class NoHigherTest(RefusalCase):

    def test_all_pairs_of_kinds(self):
        for at, one in enumerate(KINDS):
            for beside, other in enumerate(KINDS):
                with self.subTest(at=at, beside=beside):
                    self.assertIs(no_higher(one, other), at <= beside)
                    self.assertIs(no_higher(other=other, one=one), at <= beside)

    def test_kinds_of_families(self):
        self.assertIs(no_higher(kind(Family([UP])), kind(Family([SIDE]))), True)
        self.assertIs(no_higher(kind(Family([UP, DOWN])), kind(Family([SIDE]))), False)

    def test_no_kinds(self):
        for thing in no_kinds():
            with self.subTest(thing=type(thing).__name__):
                for right in (("nil",), ("power", 3), ("factor",)):
                    self.refused(BadKind, "value", thing, no_higher, thing, right)
                    self.refused(BadKind, "value", thing, no_higher, right, thing)
                    self.refused(BadKind, "value", thing, no_higher, other=thing, one=right)

    def test_of_two_the_first_counts(self):
        for thing in no_kinds():
            mark = ["power", 0]
            with self.subTest(thing=type(thing).__name__):
                self.refused(BadKind, "value", thing, no_higher, thing, mark)
                self.refused(BadKind, "value", mark, no_higher, mark, thing)
                self.refused(BadKind, "value", thing, no_higher, other=mark, one=thing)

    def test_a_refusal_is_a_growth_error(self):
        with self.assertRaises(GrowthError):
            no_higher(("power", True), ("nil",))
