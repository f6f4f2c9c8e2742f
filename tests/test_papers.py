"""Tests of what check accepts and refuses: point [16], and the interface under kinds.py."""

import copy
import random
import unittest
from unittest import mock

import reckoning
from drawn import FACTOR, LEVEL, NIL, POWERS, by_hand, drawn
from growthkinds.errors import BadPaper, GrowthError
from growthkinds.families import Family
from growthkinds.kinds import check, kind, paper
from samples import (
    DOWN, ROUND, SIDE, UP, Odd, RefusalCase, near_misses, nested, no_integers, no_numbers, part_at, put,
    several_otherwise, spots, strange,
)

SIDE_LINK = (0, 1, (0,))
STAIRS = ((1, 1, 0), (0, 1, 1), (0, 0, 1))
STAIRS_PAPER = ("power", 2, ((0, 1, (0,)), (1, 2, (0,))), ((),))
# Two links by two tables, and a third table that joins them.
GAP = POWERS[6][1]
GAP_PAPER = ("power", 2, ((0, 1, (0,)), (2, 3, (1,))), ((0, 2, 1),))


def good_papers():
    """List pairs of tables and a paper that holds, of each kind, not only told ones."""
    many = [(tables, paper(Family(tables))) for tables, _ in by_hand()]
    many += [(tables, paper(Family(tables))) for tables in drawn(31, 150)]
    many += [
        ((UP,), ("nil", (1, 0))),
        ((UP,), ("nil", (-3, -10 ** 999))),
        ((UP,), ("nil", (10 ** 999, 5))),
        ((((0, 0), (0, 0)),), ("nil", (7, 7))),
        ((UP, DOWN), ("factor", 1, (1, 0))),
        ((UP, DOWN), ("factor", 0, (0, 1) * 200)),
        ((SIDE,), ("power", 1, ((0, 1, (0,) * 400),), ())),
        ((ROUND,), ("power", 0, (), ())),
        ((STAIRS,), STAIRS_PAPER),
        ((STAIRS,), ("power", 2, ((0, 1, (0, 0)), (1, 2, (0,))), ((0, 0, 0),))),
        # By the third link of all, (0, 2), which stands in no longest chain, no more can be shown.
        ((((1, 1, 0), (0, 1, 0), (0, 0, 1)),), ("power", 1, ((0, 1, (0,)),), ())),
        (GAP, GAP_PAPER),
        (GAP, ("power", 2, ((0, 1, (0, 0)), (2, 3, (1, 1, 1))), ((0, 0, 2, 1),))),
    ]
    return many


def others(part):
    """List what may stand instead of a part: near misses, and things of other types."""
    many = [None, True, False, "", "nil", b"nil", (), (0,), (0, 0), [], [0], {}, {0: 0}, {0}, object(), Odd(), mock.ANY, int]
    many += [-1, 0, 1, 2, 3, 4, 10 ** 999, "factor", "power", "kind", (0,) * 401, (0,) * 400, nested(30), Family([SIDE])]
    many += [("power", 0, (), ()), ("nil", (1, 0)), ("factor", 0, (0, 1))]
    return many + near_misses(part)


class CheckCase(RefusalCase):

    def judged(self, tables, thing):
        """Compare check with what the document says of a thing, and tell that."""
        wanted = reckoning.verdict(tables, thing)
        family = Family(tables)
        if wanted == "holds":
            told = check(family, thing)
            self.assertIs(type(told), str)
            self.assertEqual(told, thing[0])
        else:
            self.wrong(tables, thing, wanted)
        return wanted

    def wrong(self, tables, thing, word):
        """Check that a thing is refused with a word."""
        with self.assertRaises(BadPaper) as caught:
            check(Family(tables), thing)
        self.assertIs(type(caught.exception), BadPaper)
        self.assertEqual(caught.exception.place, word)


class HoldsTest(CheckCase):

    def test_the_example_of_the_document(self):
        self.assertEqual(check(Family([((1, 3), (0, 1))]), ("power", 1, ((0, 1, (0,)),), ())), "power")

    def test_good_papers(self):
        for tables, thing in good_papers():
            with self.subTest(tables=tables, thing=str(thing)[:200]):
                self.assertEqual(check(Family(tables), thing), thing[0])
                self.assertEqual(self.judged(tables, thing), "holds")

    def test_by_names(self):
        self.assertEqual(check(thing=("nil", (1, 0)), family=Family([UP])), "nil")

    def test_papers_of_other_families(self):
        told = [(tables, paper(Family(tables))) for tables, _ in by_hand()]
        for tables, _ in told:
            for _, thing in told:
                with self.subTest(tables=tables, thing=thing):
                    self.judged(tables, thing)


class FormTest(CheckCase):

    def test_things_of_any_kind(self):
        things = strange() + no_integers() + [0, -1, 10 ** 999, "nil", "power", "factor", [], (), nested(1), nested(50)]
        things += [["nil", (1, 0)], ["factor", 0, (0, 1)], ["power", 0, (), ()], {"nil": (1, 0)}, {"nil", (1, 0)}]
        things += [(thing, (1, 0)) for thing in strange() if thing != "nil"] + [(mock.ANY, (1, 0)), (Odd(), 0, (0, 1))]
        for tables in ((UP,), (UP, DOWN), (SIDE,)):
            for thing in things:
                with self.subTest(tables=tables, thing=type(thing).__name__):
                    self.wrong(tables, thing, "form")

    def test_first_words_and_lengths(self):
        parts = {"nil": ((1, 0),), "factor": (0, (0, 1)), "power": (1, (SIDE_LINK,), ())}
        for tables in ((UP,), (UP, DOWN), (SIDE,)):
            for word in ("nil", "factor", "power", "Nil", "", "n", "nilfactor", b"nil", None, 0, ("nil",), ["nil"]):
                for owner, rest in parts.items():
                    for thing in ((word,) + rest, (word,) + rest[:-1], (word,) + rest + ((),)):
                        with self.subTest(tables=tables, thing=thing):
                            right = {"nil": 2, "factor": 3, "power": 4}.get(str(word)) if type(word) is str else None
                            if right != len(thing):
                                self.wrong(tables, thing, "form")
                            else:
                                self.judged(tables, thing)

    def test_form_counts_first(self):
        self.wrong((UP,), ("nil",), "form")
        self.wrong((UP,), ("nil", None, None), "form")
        self.wrong((UP,), ("factor", None), "form")
        self.wrong((UP,), ("power", None, None), "form")
        self.wrong((UP,), ("power", None, None, None, None), "form")


class NilTest(CheckCase):

    def test_heights(self):
        for heights in [(1, 0), (0, -1), (9, 2), (10 ** 999, -(10 ** 999))]:
            self.assertEqual(check(Family([UP]), ("nil", heights)), "nil")
        for heights in [(0, 0), (0, 1), (1,), (), (2, 1, 0), (True, False), (True, 0), (1, False), [1, 0], "10", (1, "0")]:
            with self.subTest(heights=heights):
                self.wrong((UP,), ("nil", heights), "heights")

    def test_an_integer_for_each_place_also_where_no_step_goes(self):
        still = ((0, 0, 0),) * 3
        self.assertEqual(check(Family([still]), ("nil", (0, 0, 0))), "nil")
        self.assertEqual(check(Family([still]), ("nil", (1, 5, -2))), "nil")
        for thing in no_integers():
            for at in range(3):
                with self.subTest(at=at, thing=type(thing).__name__):
                    self.wrong((still,), ("nil", put((0, 0, 0), (at,), thing)), "heights")
        for thing in strange() + [0, [0, 0, 0], (0, 0), (0, 0, 0, 0), (), {0: 0, 1: 0, 2: 0}, nested(50)]:
            with self.subTest(thing=type(thing).__name__):
                self.wrong((still,), ("nil", thing), "heights")

    def test_each_step_of_each_table(self):
        stairs = (((0, 1, 0), (0, 0, 0), (0, 0, 0)), ((0, 0, 0), (0, 0, 9), (0, 0, 0)), ((0, 0, 4), (0, 0, 0), (0, 0, 0)))
        for heights in [(a, b, c) for a in range(3) for b in range(3) for c in range(3)]:
            with self.subTest(heights=heights):
                if heights == (2, 1, 0):
                    self.assertEqual(check(Family(stairs), ("nil", heights)), "nil")
                else:
                    self.wrong(stairs, ("nil", heights), "heights")

    def test_what_is_not_nil(self):
        for tables in LEVEL + FACTOR + [tables for _, tables in POWERS]:
            self.wrong(tables, ("nil", tuple(range(len(tables[0])))[::-1]), "heights")


class FactorTest(CheckCase):

    def test_no_places(self):
        for thing in no_numbers(2):
            with self.subTest(thing=type(thing).__name__):
                self.wrong((UP, DOWN), ("factor", thing, (0, 1)), "place")
                self.wrong((UP, DOWN), ("factor", thing, None), "place")

    def test_no_such_words(self):
        words = strange() + [0, [], [0, 1], (), (0,), (1,), (0, 0), (1, 0), (0, 1, 0), (0, 1, True), (0, 2), (0, -1), ((0, 1),)]
        words += [(0, 1) * 200 + (0,), (0, 1) * 201, (False, True), ("0", "1"), "01", (0, 1, None), nested(50), (0, Odd())]
        for word in words:
            with self.subTest(word=type(word).__name__):
                self.wrong((UP, DOWN), ("factor", 0, word), "word")

    def test_exactly_2_is_enough_and_1_is_not(self):
        self.assertEqual(check(Family([((2,),), ((1,),)]), ("factor", 0, (0,))), "factor")
        self.wrong((((2,),), ((1,),)), ("factor", 0, (1,)), "word")
        self.wrong((((2,),), ((1,),)), ("factor", 0, ()), "word")

    def test_a_2_beside_the_place(self):
        self.wrong((((1, 9), (9, 0)),), ("factor", 0, (0,)), "word")
        self.assertEqual(check(Family([((1, 9), (9, 0))]), ("factor", 0, (0, 0))), "factor")
        self.wrong((((1, 9), (0, 1)),), ("factor", 0, (0,)), "word")
        self.wrong((((1, 0), (0, 2)),), ("factor", 0, (0,)), "word")
        self.assertEqual(check(Family([((1, 0), (0, 2))]), ("factor", 1, (0,))), "factor")


class PowerTest(CheckCase):

    def test_no_numbers(self):
        for thing in no_integers() + [-1, -2, -(10 ** 999)]:
            with self.subTest(thing=type(thing).__name__):
                self.wrong((SIDE,), ("power", thing, (SIDE_LINK,), ()), "number")
                self.wrong((SIDE,), ("power", thing, None, None), "number")
        # True is no integer here, though it is 1 to Python.
        self.wrong((SIDE,), ("power", True, (SIDE_LINK,), ()), "number")
        self.wrong((ROUND,), ("power", False, (), ()), "number")

    def test_as_many_links_as_told(self):
        for power in (0, 2, 3, 10 ** 999):
            self.wrong((SIDE,), ("power", power, (SIDE_LINK,), ()), "links")
        self.wrong((SIDE,), ("power", 1, (), ()), "links")
        self.wrong((SIDE,), ("power", 1, (SIDE_LINK, SIDE_LINK), ()), "links")
        self.wrong((SIDE,), ("power", 1, [SIDE_LINK], ()), "links")
        self.wrong((SIDE,), ("power", 1, SIDE_LINK, ()), "links")
        self.wrong((SIDE,), ("power", 3, SIDE_LINK, ()), "links")
        for thing in strange() + [0, [], {}, nested(50)]:
            self.wrong((SIDE,), ("power", 1, thing, ()), "links")
            self.wrong((ROUND,), ("power", 0, thing, ()), "links")

    def test_no_triples(self):
        triples = strange() + [0, (), [0, 1, (0,)], (0, 1), (0, 1, (0,), ()), (0, 1, [0]), (0, 1, 0), (0, 1, "0"), nested(50)]
        triples += [(0, 1, ()), (0, 1, (1,)), (0, 1, (-1,)), (0, 1, (False,)), (0, 1, (0, None)), (0, 1, (0,) * 401)]
        triples += [(1, 0, (0,)), (0, 0, (0,)), (1, 1, (0,)), (0, 0, ()), (0, True, (0,)), (False, 1, (0,)), (False, True, (0,))]
        triples += [(thing, 1, (0,)) for thing in no_numbers(2)] + [(0, thing, (0,)) for thing in no_numbers(2)]
        for triple in triples:
            with self.subTest(triple=type(triple).__name__):
                self.wrong((SIDE,), ("power", 1, (triple,), ()), "links")

    def test_each_of_the_three_entries_of_a_link(self):
        for table in (((0, 1), (0, 1)), ((1, 0), (0, 1)), ((1, 1), (0, 0))):
            self.wrong((table,), ("power", 1, (SIDE_LINK,), ()), "links")

    def test_each_triple_counts(self):
        word, power, triples, joins = STAIRS_PAPER
        for at in range(2):
            for triple in ((0, 2, ()), (2, 1, (0,)), None, (0, 2, (0,))):
                with self.subTest(at=at, triple=triple):
                    self.wrong((STAIRS,), (word, power, put(triples, (at,), triple), joins), "links")

    def test_joins_of_no_two_links(self):
        for joins in ((0,), ((),), ((0,),), [], "", None, 0, {}, False):
            with self.subTest(joins=joins):
                self.wrong((SIDE,), ("power", 1, (SIDE_LINK,), joins), "joins")
                self.wrong((ROUND,), ("power", 0, (), joins), "joins")

    def test_joins_of_two_links(self):
        word, power, triples, _ = GAP_PAPER
        self.assertEqual(check(Family(GAP), GAP_PAPER), "power")
        wrong = strange() + [0, (), [(0, 2, 1)], (0, 2, 1), ((0, 2, 1), ()), ((0, 2, 1), (0, 2, 1)), ((),), ((0,),), ((2,) * 2,)]
        wrong += [([0, 2, 1],), ("021",), ((0, 2, True),), ((0, 2, 3),), ((1, 2, 0),), (None,), ((0, 2, 1, 0),), nested(50)]
        wrong += [((0,) * 399 + (2, 1),)]
        for joins in wrong:
            with self.subTest(joins=type(joins).__name__):
                self.wrong(GAP, (word, power, triples, joins), "joins")
        self.assertEqual(check(Family(GAP), (word, power, triples, ((0,) * 398 + (2, 1),))), "power")
        self.assertEqual(check(Family(GAP), (word, power, triples, ((2,),))), "power")

    def test_the_kind(self):
        self.wrong((UP,), ("power", 0, (), ()), "kind")
        self.wrong((SIDE,), ("power", 0, (), ()), "kind")
        self.wrong((STAIRS,), ("power", 0, (), ()), "kind")
        self.wrong((STAIRS,), ("power", 1, ((0, 2, (0, 0)),), ()), "kind")
        self.wrong((STAIRS,), ("power", 1, STAIRS_PAPER[2][1:], ()), "kind")
        self.wrong((((2, 1), (0, 1)),), ("power", 1, (SIDE_LINK,), ()), "kind")
        self.wrong((UP, DOWN), ("power", 0, (), ()), "kind")
        # Where a family grows by a factor, a link may stand in a chain as often as one likes.
        self.wrong((((1, 1), (1, 1)),), ("power", 2, ((0, 1, (0,)),) * 2, ((0,),)), "kind")
        self.wrong((((1, 1), (1, 1)),), ("power", 50, ((0, 1, (0,)), (1, 0, (0,))) * 25, ((),) * 49), "kind")

    def test_what_is_wrong_first(self):
        right = ["power", 1, (SIDE_LINK,), ()]
        words = ["form", "number", "links", "joins"]
        mistakes = ["Power", -1, (None,), (None,)]
        for wrong in range(1, 16):
            parts = [mistakes[at] if wrong >> at & 1 else right[at] for at in range(4)]
            with self.subTest(wrong=wrong):
                first = [words[at] for at in range(4) if wrong >> at & 1][0]
                self.wrong((SIDE,), tuple(parts), first)
                # The kind of this one is another one, too.
                self.wrong((((1, 1), (1, 1)),), tuple(parts), first)
        self.wrong((((1, 1), (1, 1)),), tuple(right), "kind")


class OtherwiseTest(CheckCase):

    def test_each_part_otherwise_at_any_depth(self):
        seen = set()
        for tables, thing in good_papers()[:40] + good_papers()[-13:]:
            for place in spots(thing):
                for part in others(part_at(thing, place)):
                    with self.subTest(tables=tables, place=place, part=type(part).__name__):
                        seen.add(self.judged(tables, put(thing, place, part)))
        self.assertEqual(seen, {"form", "heights", "place", "word", "number", "links", "joins", "kind", "holds"})

    def test_several_parts_otherwise(self):
        draw = random.Random(32)
        seen = set()
        papers = good_papers()
        for count in range(6000):
            tables, thing = draw.choice(papers)
            thing = several_otherwise(draw, thing, others)
            with self.subTest(count=count, tables=tables):
                seen.add(self.judged(tables, thing))
        self.assertLessEqual({"form", "heights", "place", "word", "number", "links", "joins"}, seen)

    def test_what_was_passed_stays_as_it_was(self):
        for thing in (["nil", [1, 0]], ("nil", [1, 0]), ("factor", 0, [0, [1]]), ("power", 1, [[0, 1, [0]]], [[]]), {"nil": []}):
            before = copy.deepcopy(thing)
            for tables in ((UP,), (UP, DOWN), (SIDE,)):
                with self.assertRaises(BadPaper):
                    check(Family(tables), thing)
            self.assertEqual(thing, before)

    def test_a_refusal_is_a_growth_error(self):
        with self.assertRaises(GrowthError):
            check(Family([UP]), None)

    def test_long_papers_are_looked_at_to_their_end(self):
        many = 3000
        full = (((1, 1), (1, 1)),)
        triples = ((0, 1, (0,)),) * many
        self.wrong(full, ("power", many, triples, ((0,),) * (many - 1)), "kind")
        self.wrong(full, ("power", many, triples, ((0,),) * (many - 2) + ((),)), "joins")
        self.wrong(full, ("power", many, triples[1:] + ((0, 1, ()),), ((0,),) * (many - 1)), "links")
        self.assertEqual(kind(Family(full)), ("factor",))
