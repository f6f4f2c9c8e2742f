"""Tests of words that go by pairs: points [11] and [18], and the interface under orders.py."""

import random
import unittest
from itertools import combinations

import reckoning
from drawn import by_hand, drawn
from growthkinds.errors import BadPairs, BadWord, GrowthError
from growthkinds.families import Family
from growthkinds.kinds import kind, no_higher
from growthkinds.orders import all_pairs, goes_by, kind_by, longest_by
from samples import DOWN, PLAIN, ROUND, SIDE, TURN, UP, Odd, RefusalCase, nested, no_integers, no_numbers, strange

ALL = {
    1: ((0, 0),),
    2: ((0, 0), (0, 1), (1, 0), (1, 1)),
    3: ((0, 0), (0, 1), (0, 2), (1, 0), (1, 1), (1, 2), (2, 0), (2, 1), (2, 2)),
}
CALLS = {
    "goes_by": lambda family, pairs: goes_by(family, pairs, ()),
    "kind_by": kind_by,
    "longest_by": longest_by,
}


def lots_of_pairs(count):
    """List all pairs of so many tables that there are, as the document has them."""
    return [pairs for many in range(len(ALL[count]) + 1) for pairs in combinations(ALL[count], many)]


def with_drawn_pairs(families, each):
    """List tables beside pairs, of which few, some or most are there."""
    draw = random.Random(81)
    many = []
    for tables in families:
        for _ in range(each):
            part = draw.choice((0.2, 0.4, 0.6, 0.8))
            many.append((tables, tuple(pair for pair in ALL[len(tables)] if draw.random() < part)))
    return many


def walks(tables, pairs, last, starts):
    """Find what words make that are not () and may stand behind the number last.

    For each word its last number, and the rows of its product at the starts, with 2 for any entry above it.
    """
    many = len(tables[0])
    waiting = [(last, tuple(tuple(int(place == start) for place in range(many)) for start in starts))]
    found = set()
    while waiting:
        ahead, rows = waiting.pop()
        for one, other in pairs:
            if one == ahead:
                result = tuple(tuple(min(2, entry) for entry in row) for row in reckoning.times(rows, tables[other]))
                if (other, result) not in found:
                    found.add((other, result))
                    waiting.append((other, result))
    return found


def kind_by_pairs(tables, pairs):
    """The kind by pairs, by what words do that go by the pairs, behind each number."""
    places, numbers = range(len(tables[0])), range(len(tables))
    ones = {(i, a): walks(tables, pairs, a, (i,)) for i in places for a in numbers}
    later = {spot: {(j, b) for b, (row,) in found for j in places if row[j]} for spot, found in ones.items()}
    if not any(spot in later[spot] for spot in ones):
        return ("nil",)
    if any(b == a and row[i] > 1 for (i, a), found in ones.items() for b, (row,) in found):
        return ("factor",)
    # A word has one last number only, so that both places of a link stand beside the same one.
    links = [((i, a), (j, a)) for a in numbers for i in places for j in places if i != j
             if any(b == a and one[i] and one[j] and other[j] for b, (one, other) in walks(tables, pairs, a, (i, j)))]
    return ("power", max([reckoning.longest_behind(link, links, later) for link in links], default=0))


def over_places_and_last_tables(tables, pairs):
    """Write out the table family over places and last tables, entry by entry."""
    spots = [(i, a) for i in range(len(tables[0])) for a in range(len(tables))]
    family = []
    for number in range(len(tables)):
        entries = {(one, other): 0 for one in spots for other in spots}
        for i, a in spots:
            for j in range(len(tables[0])):
                if (a, number) in pairs:
                    entries[(i, a), (j, number)] = tables[number][i][j]
        family.append(tuple(tuple(entries[one, other] for other in spots) for one in spots))
    return tuple(family)


def no_pairs(count):
    """Make values of many kinds, none of which is pairs of so many tables."""
    many = strange() + no_integers() + [0, 1, -1, 10 ** 999, [], [(0, 0)], nested(1), nested(2), nested(50), {(0, 0)}, "00"]
    many = [thing for thing in many if not (type(thing) is tuple and thing == ())]
    many += [{(0, 0): 1}, iter([(0, 0)]), (0, 0), (0, 1), ((0, 0), None), (None, (0, 0)), (((0, 0),),), ("00",), (b"00",)]
    many += [((0,),), ((0, 0, 0),), ((),), ([0, 0],), ((0, 0), [0, 0]), ({0: 0},), ({0},), (range(2),), (Odd(),)]
    many += [((False, 0),), ((0, False),), ((False, False),), ((True, True),), ((0, True),)]
    # Out of order, or something twice.
    many += [((0, 0), (0, 0)), ALL[count] + ALL[count][-1:], ALL[count][:1] + ALL[count], ((0, 0),) * 5000]
    if count > 1:
        many += [((0, 1), (0, 0)), ((1, 0), (0, 1)), ((0, 0), (1, 1), (1, 0)), ALL[count][::-1], ((0, 1), (1, 0), (0, 1))]
    for thing in no_numbers(count):
        many += [((thing, 0),), ((0, thing),), ((0, 0), (0, thing)), ((0, 0), (thing, 0))]
    return many


class GoesByTest(RefusalCase):

    def test_by_hand(self):
        family = Family([UP, DOWN])
        self.assertIs(goes_by(family, ((0, 1), (1, 0)), (0, 1, 0, 1)), True)
        self.assertIs(goes_by(family, ((0, 1), (1, 0)), (0, 1, 1)), False)
        self.assertIs(goes_by(family, ((0, 1),), (0, 1)), True)
        self.assertIs(goes_by(family, ((0, 1),), (1, 0)), False)
        self.assertIs(goes_by(family, ((0, 1),), (0, 1, 0)), False)
        self.assertIs(goes_by(family, ((0, 0),), (0,) * 400), True)
        self.assertIs(goes_by(family, ((0, 0),), (0,) * 399 + (1,)), False)

    def test_nothing_and_one_number_go_by_any_pairs(self):
        for count in (1, 2, 3):
            family = Family([UP, DOWN, SIDE][:count])
            for pairs in lots_of_pairs(count):
                self.assertIs(goes_by(family, pairs, ()), True)
                for number in range(count):
                    self.assertIs(goes_by(family, pairs, (number,)), True)

    def test_all_short_words(self):
        for count in (1, 2, 3):
            family = Family([UP, DOWN, SIDE][:count])
            for pairs in lots_of_pairs(count)[::3] + [ALL[count]]:
                for long in range(2, 5):
                    for word in reckoning.words_of(family.tables, long):
                        with self.subTest(pairs=pairs, word=word):
                            wanted = {word[at:at + 2] for at in range(long - 1)} <= set(pairs)
                            self.assertIs(goes_by(family, pairs, word), wanted)

    def test_no_pairs(self):
        for count in (1, 2, 3):
            family = Family([UP, DOWN, SIDE][:count])
            for thing in no_pairs(count):
                for name, call in CALLS.items():
                    with self.subTest(count=count, name=name, thing=str(thing)[:100]):
                        self.refused(BadPairs, "value", thing, call, family, thing)
                        self.refused(BadPairs, "value", thing, call, pairs=thing, family=family)

    def test_no_words(self):
        for tables in ([UP], [UP, DOWN], [SIDE] * 3):
            family = Family(tables)
            wrong = strange() + [0, -1, [], [0], nested(1), nested(50), (len(tables),), (-1,), (0, True), (0,) * 401, "0"]
            for thing in wrong + [(0, thing) for thing in no_numbers(len(tables))]:
                with self.subTest(thing=str(thing)[:100]):
                    self.refused(BadWord, "value", thing, goes_by, family, (), thing)
                    self.refused(BadWord, "value", thing, goes_by, word=thing, pairs=ALL[len(tables)], family=family)

    def test_pairs_count_ahead_of_the_word(self):
        for thing in no_pairs(2):
            for word in ([0], (0, 2), None, (0,) * 401):
                with self.subTest(thing=str(thing)[:100]):
                    self.refused(BadPairs, "value", thing, goes_by, Family([UP, DOWN]), thing, word)
                    self.refused(BadPairs, "value", thing, goes_by, word=word, family=Family([UP, DOWN]), pairs=thing)

    def test_refusals_are_growth_errors(self):
        with self.assertRaises(GrowthError):
            goes_by(Family([UP]), ((0, 1),), ())
        with self.assertRaises(GrowthError):
            goes_by(Family([UP]), (), (1,))

    def test_what_was_passed_stays_as_it_was(self):
        pairs, word = [[0, 0], [1]], [0, [1]]
        for call, args in ((goes_by, (pairs, word)), (goes_by, ((), word)), (kind_by, (pairs,)), (longest_by, (pairs,))):
            with self.assertRaises(GrowthError):
                call(Family([UP, DOWN]), *args)
        self.assertEqual((pairs, word), ([[0, 0], [1]], [0, [1]]))


class KindByTest(unittest.TestCase):

    def test_by_hand(self):
        two = Family([UP, DOWN])
        self.assertEqual(kind_by(two, ()), ("nil",))
        self.assertEqual(kind_by(two, ((0, 1),)), ("nil",))
        self.assertEqual(kind_by(two, ((0, 0), (1, 1))), ("nil",))
        self.assertEqual(kind_by(two, ((0, 1), (1, 0))), ("factor",))
        self.assertEqual(kind_by(Family([SIDE]), ()), ("nil",))
        self.assertEqual(kind_by(Family([SIDE, TURN]), ((0, 0),)), ("power", 1))
        self.assertEqual(kind_by(Family([SIDE, ((1, 0), (0, 1))]), ((0, 1), (1, 1))), ("power", 0))
        self.assertEqual(kind_by(Family([PLAIN]), ((0, 0),)), ("factor",))

    def test_twelve_places(self):
        stairs = ((1, 1, 0, 0), (0, 1, 1, 0), (0, 0, 1, 1), (0, 0, 0, 1))
        family = Family([stairs] * 3)
        self.assertEqual(kind_by(family, ALL[3]), ("power", 3))
        self.assertEqual(kind_by(family, ((0, 0), (0, 1), (1, 1), (1, 2), (2, 2))), ("power", 3))
        self.assertEqual(kind_by(family, ((0, 1), (1, 2))), ("nil",))
        self.assertEqual(kind_by(family, ((0, 1), (1, 2), (2, 0))), ("power", 3))
        links = [((1, 1, 0, 0), (0, 1, 0, 0), (0, 0, 1, 0), (0, 0, 0, 1)), ((1, 0, 0, 0), (0, 1, 1, 0), (0, 0, 1, 0), (0, 0, 0, 1)),
                 ((1, 0, 0, 0), (0, 1, 0, 0), (0, 0, 1, 1), (0, 0, 0, 1))]
        self.assertEqual(kind_by(Family(links), ((0, 0), (0, 1), (1, 1), (1, 2), (2, 2))), ("power", 3))
        self.assertEqual(kind_by(Family(links), ((0, 0), (1, 0), (1, 1), (2, 1), (2, 2))), ("power", 1))
        self.assertEqual(kind_by(Family(links), ((0, 0), (1, 1), (2, 2))), ("power", 1))
        self.assertEqual(kind_by(Family(links), ((0, 0), (1, 1), (1, 2), (2, 2))), ("power", 2))

    def test_by_all_pairs_it_is_the_kind_of_the_family(self):
        for tables in [tables for tables, _ in by_hand()] + drawn(82, 250):
            family = Family(tables)
            with self.subTest(tables=tables):
                self.assertEqual(kind_by(family, ALL[len(tables)]), kind(family))

    def test_by_no_pairs_it_is_nil(self):
        for tables in [tables for tables, _ in by_hand()] + drawn(83, 50):
            self.assertEqual(kind_by(Family(tables), ()), ("nil",))

    def test_by_what_words_do(self):
        seen = set()
        for tables, pairs in with_drawn_pairs([tables for tables, _ in by_hand()] + drawn(84, 300), 3):
            with self.subTest(tables=tables, pairs=pairs):
                told = kind_by(Family(tables), pairs)
                self.assertIs(type(told), tuple)
                self.assertEqual(told, kind_by_pairs(tables, pairs))
                self.assertEqual([type(part) for part in told], [str, int][:len(told)])
                seen.add(told)
        self.assertLessEqual({("nil",), ("power", 0), ("power", 1), ("power", 2), ("power", 3), ("factor",)}, seen)

    def test_by_the_table_family_over_places_and_last_tables(self):
        few = [tables for tables in drawn(85, 800) if len(tables) * len(tables[0]) <= 4]
        for tables, pairs in with_drawn_pairs(few, 2):
            with self.subTest(tables=tables, pairs=pairs):
                wide = over_places_and_last_tables(tables, pairs)
                self.assertEqual(kind_by(Family(tables), pairs), reckoning.kind_of(wide))
                self.assertEqual(kind_by(Family(tables), pairs), kind(Family(wide)))

    def test_a_pair_more_makes_no_lower_kind(self):
        for tables, pairs in with_drawn_pairs(drawn(86, 80), 1):
            family = Family(tables)
            told = kind_by(family, pairs)
            for pair in ALL[len(tables)]:
                with self.subTest(tables=tables, pairs=pairs, pair=pair):
                    more = tuple(sorted({*pairs, pair}))
                    self.assertIs(no_higher(told, kind_by(family, more)), True)

    def test_by_names(self):
        self.assertEqual(kind_by(pairs=((0, 0),), family=Family([SIDE])), ("power", 1))


class LongestByTest(unittest.TestCase):

    def test_by_hand(self):
        self.assertEqual(longest_by(Family([UP]), ()), 1)
        self.assertIsNone(longest_by(Family([UP]), ((0, 0),)))
        self.assertEqual(longest_by(Family([UP, DOWN]), ((0, 1),)), 2)
        self.assertEqual(longest_by(Family([UP, DOWN]), ((1, 0),)), 2)
        self.assertIsNone(longest_by(Family([UP, DOWN]), ((0, 1), (1, 0))))
        self.assertEqual(longest_by(Family([UP, DOWN, SIDE]), ((0, 1), (0, 2), (1, 2))), 3)
        self.assertEqual(longest_by(Family([UP, DOWN, SIDE]), ((0, 1), (0, 2))), 2)
        self.assertIsNone(longest_by(Family([UP, DOWN, SIDE]), ((0, 1), (1, 2), (2, 0))))

    def test_all_pairs_that_there_are(self):
        for count in (1, 2, 3):
            for tables in ([UP, DOWN, SIDE][:count], [((0,),)] * count):
                family = Family(tables)
                for pairs in lots_of_pairs(count):
                    with self.subTest(count=count, pairs=pairs):
                        told = longest_by(family, pairs)
                        going = [long for long in range(count + 2) for word in reckoning.words_of(tables, long)
                                 if goes_by(family, pairs, word)]
                        # A word with more numbers than there are tables has one twice, and can get longer on and on.
                        self.assertEqual(told, None if max(going) > count else max(going))
                        self.assertIn(type(told), (int, type(None)))

    def test_by_names(self):
        self.assertEqual(longest_by(pairs=(), family=Family([SIDE])), 1)


class AllPairsTest(unittest.TestCase):

    def test_all(self):
        for count in (1, 2, 3):
            for tables in ([UP, DOWN, SIDE][:count], [ROUND] * count):
                self.assertEqual(all_pairs(Family(tables)), ALL[count])
                self.assertEqual(all_pairs(family=Family(tables)), ALL[count])

    def test_each_word_goes_by_all_pairs(self):
        family = Family([UP, DOWN, SIDE])
        for word in reckoning.words_of(family.tables, 4):
            self.assertIs(goes_by(family, all_pairs(family), word), True)
