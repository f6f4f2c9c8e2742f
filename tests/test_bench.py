"""Tests of benches: points [0], [2], [4], [10] and [15], and the interface under bench.py."""

import operator
import random
from unittest import mock

import reckoning
from drawn import drawn
from growthkinds.bench import Bench, tried
from growthkinds.errors import BadNumber, BadTables, GrowthError
from growthkinds.families import Family
from samples import (
    DOWN, FIVE, FOUR, ROUND, SIDE, TURN, UP, AlikeCase, Odd, RefusalCase, no_numbers, no_tables, operators,
)


class Stop(Exception):
    """An error of the tests' own."""


def state(bench):
    """Tell all that a bench shows, by taking back all its deeds, in a trial."""
    families = [bench.family.tables]
    with bench.trial():
        while len(bench):
            bench.undo()
            families.append(bench.family.tables)
    return families


class BenchCase(RefusalCase):

    def stands(self, bench, families):
        """Check that a bench went through just these families, the one now last."""
        self.assertIs(type(bench.family), Family)
        self.assertEqual(bench.family.tables, families[-1])
        self.assertEqual(len(bench), len(families) - 1)
        self.assertEqual(state(bench), families[::-1])
        self.assertEqual(bench.family.tables, families[-1])

    def kept(self, bench, error, field, value, call, *args, **named):
        """Check that a call is refused, and that no trace of it is left."""
        before = state(bench)
        self.refused(error, field, value, call, *args, **named)
        self.assertEqual(state(bench), before)


def changed(tables, number, row, place, entry):
    """Put another entry into tables."""
    lists = [[list(line) for line in table] for table in tables]
    lists[number][row][place] = entry
    return tuple(tuple(tuple(line) for line in table) for table in lists)


class DeedTest(BenchCase):

    def test_at_the_beginning(self):
        for tables in ([SIDE], [UP, DOWN], [ROUND] * 3):
            for bench in (Bench(Family(tables)), Bench(family=Family(tables))):
                self.stands(bench, [tuple(tables)])
                self.assertEqual(bench.family, Family(tables))

    def test_a_table(self):
        bench = Bench(Family([UP]))
        self.assertIsNone(bench.table(DOWN))
        self.stands(bench, [(UP,), (UP, DOWN)])
        self.assertIsNone(bench.table(table=SIDE))
        self.stands(bench, [(UP,), (UP, DOWN), (UP, DOWN, SIDE)])

    def test_a_fourth_table(self):
        bench = Bench(Family([UP, DOWN]))
        bench.table(UP)
        for table in (UP, SIDE):
            self.kept(bench, BadTables, "place", None, bench.table, table)
        self.stands(bench, [(UP, DOWN), (UP, DOWN, UP)])
        bench.drop(0)
        bench.table(SIDE)
        self.stands(bench, [(UP, DOWN), (UP, DOWN, UP), (DOWN, UP), (DOWN, UP, SIDE)])

    def test_no_table(self):
        for count in (1, 2, 3):
            bench = Bench(Family([UP, DOWN, SIDE][:count]))
            bench.entry(0, 0, 0, 3)
            for thing in no_tables() + [((1,),), ROUND, FOUR, FIVE]:
                with self.subTest(count=count, thing=type(thing).__name__):
                    self.kept(bench, BadTables, "place", count, bench.table, thing)
                    self.kept(bench, BadTables, "place", count, bench.table, table=thing)

    def test_dropping(self):
        bench = Bench(Family([UP, DOWN, SIDE]))
        self.assertIsNone(bench.drop(1))
        self.assertIsNone(bench.drop(number=0))
        self.stands(bench, [(UP, DOWN, SIDE), (UP, SIDE), (SIDE,)])

    def test_dropping_what_is_not_there(self):
        for count in (1, 2, 3):
            bench = Bench(Family([UP, DOWN, SIDE][:count]))
            bench.entry(0, 1, 1, 4)
            for thing in no_numbers(count) + ([0] if count == 1 else []):
                with self.subTest(count=count, thing=type(thing).__name__):
                    self.kept(bench, BadNumber, "value", thing, bench.drop, thing)
                    self.kept(bench, BadNumber, "value", thing, bench.drop, number=thing)

    def test_an_entry(self):
        bench = Bench(Family([UP, SIDE]))
        self.assertIsNone(bench.entry(1, 0, 1, 7))
        self.assertIsNone(bench.entry(entry=9, place=0, row=1, number=0))
        self.stands(bench, [(UP, SIDE), (UP, ((1, 7), (0, 1))), (((0, 1), (9, 0)), ((1, 7), (0, 1)))])

    def test_an_entry_that_is_there_already_is_a_deed(self):
        bench = Bench(Family([SIDE]))
        bench.entry(0, 0, 1, 3)
        bench.entry(0, 0, 1, 3)
        self.stands(bench, [(SIDE,)] * 3)
        bench.undo()
        self.stands(bench, [(SIDE,)] * 2)

    def test_no_entry(self):
        bench = Bench(Family([UP, DOWN]))
        bench.table(SIDE)
        limits = {"number": 3, "row": 2, "place": 2, "entry": 10}
        for at, (name, limit) in enumerate(limits.items()):
            for thing in no_numbers(limit):
                with self.subTest(name=name, thing=type(thing).__name__):
                    args = [0] * at + [thing] + [0] * (3 - at)
                    self.kept(bench, BadNumber, "value", thing, bench.entry, *args)
                    self.kept(bench, BadNumber, "value", thing, bench.entry, **dict(list(zip(limits, args))[::-1]))

    def test_of_several_the_first_counts(self):
        bench = Bench(Family([UP, DOWN]))
        wrong = [[2], (2,), "2", 10]
        for first in range(4):
            for more in range(2 ** (3 - first)):
                args = [0] * first + [wrong[first]]
                args += [wrong[at] if more >> (at - first - 1) & 1 else 0 for at in range(first + 1, 4)]
                with self.subTest(args=args):
                    self.kept(bench, BadNumber, "value", wrong[first], bench.entry, *args)

    def test_refusals_are_growth_errors(self):
        bench = Bench(Family([UP]))
        for call, args in ((bench.table, (0,)), (bench.drop, (0,)), (bench.entry, (0, 0, 0, 10)), (bench.undo, ())):
            with self.assertRaises(GrowthError):
                call(*args)

    def test_a_family_that_was_passed_stays_as_it_was(self):
        family = Family([UP, DOWN])
        bench = Bench(family)
        bench.table(SIDE)
        bench.entry(0, 0, 0, 9)
        bench.drop(1)
        self.assertEqual((family.tables, family.many, len(family)), ((UP, DOWN), 2, 2))

    def test_a_family_that_was_told_stays_as_it_was(self):
        bench = Bench(Family([UP]))
        bench.table(DOWN)
        told = bench.family
        bench.entry(0, 0, 0, 9)
        bench.undo(2)
        self.assertEqual(told.tables, (UP, DOWN))

    def test_the_family_is_a_property(self):
        self.assertIs(type(vars(Bench)["family"]), property)
        bench = Bench(Family([UP]))
        with self.assertRaises(AttributeError):
            bench.family = Family([DOWN])
        self.stands(bench, [(UP,)])

    def test_kinds(self):
        bench = Bench(Family([UP]))
        self.assertEqual(bench.kind(), ("nil",))
        bench.table(DOWN)
        self.assertEqual(bench.kind(), ("factor",))
        bench.entry(1, 1, 0, 0)
        self.assertEqual(bench.kind(), ("nil",))
        bench.entry(1, 1, 1, 1)
        self.assertEqual(bench.kind(), ("power", 0))
        bench.entry(1, 0, 0, 1)
        self.assertEqual(bench.kind(), ("power", 0))
        bench.entry(1, 0, 1, 9)
        self.assertEqual(bench.kind(), ("power", 1))
        bench.undo(4)
        self.assertEqual(bench.kind(), ("factor",))
        bench.undo()
        self.assertEqual(bench.kind(), ("nil",))


class UndoTest(BenchCase):

    def test_one(self):
        bench = Bench(Family([UP]))
        bench.table(DOWN)
        bench.drop(0)
        self.assertIsNone(bench.undo())
        self.stands(bench, [(UP,), (UP, DOWN)])
        self.assertIsNone(bench.undo(1))
        self.stands(bench, [(UP,)])

    def test_many(self):
        for many in range(1, 6):
            bench = Bench(Family([SIDE]))
            families = [(SIDE,)]
            for entry in range(5):
                bench.entry(0, 0, 0, entry)
                families.append((((entry, 3), (0, 1)),))
            bench.undo(many=many)
            self.stands(bench, families[:6 - many])
            bench.table(UP)
            self.stands(bench, families[:6 - many] + [families[5 - many] + (UP,)])

    def test_no_number_of_deeds(self):
        bench = Bench(Family([SIDE]))
        for done in range(4):
            for thing in [0, -1, done + 1, done + 2] + [thing for thing in no_numbers(1) if type(thing) is not int]:
                with self.subTest(done=done, thing=type(thing).__name__):
                    self.kept(bench, BadNumber, "value", thing, bench.undo, thing)
                    self.kept(bench, BadNumber, "value", thing, bench.undo, many=thing)
            bench.entry(0, 0, 0, done)

    def test_none_is_done(self):
        bench = Bench(Family([SIDE]))
        with self.assertRaises(BadNumber) as caught:
            bench.undo()
        self.assertEqual(caught.exception.value, 1)
        bench.table(UP)
        bench.undo()
        with self.assertRaises(BadNumber) as caught:
            bench.undo()
        self.assertEqual(caught.exception.value, 1)
        self.stands(bench, [(SIDE,)])

    def test_many_deeds(self):
        bench = Bench(Family([SIDE]))
        for count in range(20000):
            bench.entry(0, 0, 0, count % 10)
        self.assertEqual(len(bench), 20000)
        bench.undo(19997)
        self.stands(bench, [(SIDE,)] + [(((entry, 3), (0, 1)),) for entry in range(3)])


class EqualTest(AlikeCase):

    def test_equal_families(self):
        one, other = Bench(Family([UP, DOWN])), Bench(Family((UP, DOWN)))
        self.alike(one, one, True)
        self.alike(one, other, True)
        # What was done ahead of it counts for nothing.
        other.table(SIDE)
        self.alike(one, other, False)
        other.drop(2)
        self.alike(one, other, True)
        one.entry(0, 0, 1, 1)
        self.alike(one, other, True)
        one.entry(0, 0, 1, 2)
        self.alike(one, other, False)

    def test_other_families(self):
        for tables in ([DOWN, UP], [UP], [UP, UP], [UP, DOWN, UP], [ROUND]):
            self.alike(Bench(Family([UP, DOWN])), Bench(Family(tables)), False)

    def test_other_values(self):
        bench = Bench(Family([SIDE]))
        for thing in (None, True, 0, 1, "", (), (SIDE,), [SIDE], {}, object(), Bench, Family, Family([SIDE]), bench.family):
            with self.subTest(thing=type(thing).__name__):
                self.alike(bench, thing, False)

    def test_what_only_looks_like_a_bench(self):
        bench = Bench(Family([SIDE]))
        for thing in (mock.ANY, Odd(), mock.Mock(family=bench.family)):
            with self.subTest(thing=type(thing).__name__):
                self.assertIs(bench == thing, False)
                self.assertIs(bench != thing, True)


class OperatorTest(BenchCase):

    def test_operators_raise_type_error(self):
        bench = Bench(Family([UP, DOWN]))
        bench.table(SIDE)
        others = (Bench(Family([UP])), bench, bench.family, None, 1, 0, True, "a", "", b"a", (), (UP,), [], [UP], {}, {1}, object())
        for other in others:
            for act in operators():
                with self.subTest(act=act.__name__, other=type(other).__name__):
                    with self.assertRaises(TypeError):
                        act(bench, other)
                    with self.assertRaises(TypeError):
                        act(other, bench)
        self.stands(bench, [(UP, DOWN), (UP, DOWN, SIDE)])

    def test_signs_raise_type_error(self):
        for act in (operator.neg, operator.pos, operator.invert, abs):
            with self.subTest(act=act.__name__), self.assertRaises(TypeError):
                act(Bench(Family([UP])))

    def test_iteration_and_in_raise_type_error(self):
        bench = Bench(Family([UP]))
        bench.table(DOWN)
        for act in (iter, list, tuple, set, sorted, max, sum, any, all, enumerate, reversed, zip, dict):
            with self.subTest(act=act.__name__), self.assertRaises(TypeError):
                act(bench)
        with self.assertRaises(TypeError):
            one, other = bench
        for thing in (UP, bench, bench.family, 0, None, "a"):
            with self.subTest(thing=type(thing).__name__):
                with self.assertRaises(TypeError):
                    thing in bench
                with self.assertRaises(TypeError):
                    thing not in bench
        for at in (0, -1, slice(None), "family"):
            with self.assertRaises(TypeError):
                bench[at]


class TrialTest(BenchCase):

    def test_the_block_gets_the_bench_itself(self):
        bench = Bench(Family([UP]))
        with bench.trial() as same:
            self.assertIs(same, bench)

    def test_a_trial_leaves_the_bench_as_it_was(self):
        bench = Bench(Family([UP]))
        bench.table(DOWN)
        with bench.trial():
            bench.table(SIDE)
            bench.drop(0)
            bench.entry(0, 0, 0, 9)
            self.assertEqual((bench.family, len(bench)), (Family([((9, 0), (2, 0)), SIDE]), 4))
        self.stands(bench, [(UP,), (UP, DOWN)])
        bench.entry(1, 0, 0, 1)
        self.stands(bench, [(UP,), (UP, DOWN), (UP, ((1, 0), (2, 0)))])

    def test_nothing_done_in_a_trial(self):
        bench = Bench(Family([UP]))
        bench.table(DOWN)
        with bench.trial():
            pass
        self.stands(bench, [(UP,), (UP, DOWN)])

    def test_deeds_ahead_of_the_trial_taken_back(self):
        bench = Bench(Family([UP]))
        bench.table(DOWN)
        bench.table(SIDE)
        with bench.trial():
            bench.undo()
            self.assertEqual((bench.family, len(bench)), (Family([UP, DOWN]), 1))
            bench.undo()
            self.assertEqual((bench.family, len(bench)), (Family([UP]), 0))
            with self.assertRaises(BadNumber):
                bench.undo()
            bench.entry(0, 0, 0, 5)
            bench.table(TURN)
        self.stands(bench, [(UP,), (UP, DOWN), (UP, DOWN, SIDE)])
        with bench.trial():
            bench.undo(2)
        self.stands(bench, [(UP,), (UP, DOWN), (UP, DOWN, SIDE)])

    def test_an_exception_passes(self):
        for error in (Stop, KeyError, StopIteration, BadNumber, KeyboardInterrupt, GeneratorExit, SystemExit):
            bench = Bench(Family([UP]))
            bench.table(DOWN)
            one = error("here")
            with self.assertRaises(error) as caught:
                with bench.trial():
                    bench.undo()
                    bench.table(SIDE)
                    raise one
            self.assertIs(caught.exception, one)
            self.stands(bench, [(UP,), (UP, DOWN)])

    def test_a_refusal_ends_a_trial(self):
        bench = Bench(Family([UP]))
        with self.assertRaises(BadNumber):
            with bench.trial():
                bench.table(DOWN)
                bench.entry(0, 0, 0, 10)
        self.stands(bench, [(UP,)])

    def test_leaving_by_return_and_break(self):
        bench = Bench(Family([UP]))

        def leave():
            with bench.trial() as same:
                same.table(DOWN)
                return len(same)

        self.assertEqual(leave(), 1)
        self.stands(bench, [(UP,)])
        for _ in range(3):
            with bench.trial():
                bench.table(SIDE)
                break
        self.stands(bench, [(UP,)])

    def test_trials_in_one_another(self):
        bench = Bench(Family([UP]))
        bench.table(DOWN)
        with bench.trial() as one:
            one.undo()
            one.table(SIDE)
            with one.trial() as other:
                self.assertIs(other, bench)
                other.drop(0)
                with self.assertRaises(Stop):
                    with other.trial() as third:
                        third.undo(2)
                        third.entry(0, 0, 0, 4)
                        raise Stop
                self.stands(bench, [(UP,), (UP, SIDE), (SIDE,)])
                other.undo(2)
            self.stands(bench, [(UP,), (UP, SIDE)])
            one.entry(0, 1, 1, 8)
        self.stands(bench, [(UP,), (UP, DOWN)])

    def test_an_exception_through_trials_in_one_another(self):
        bench = Bench(Family([UP]))
        bench.table(DOWN)
        with self.assertRaises(Stop):
            with bench.trial():
                bench.undo()
                with bench.trial():
                    bench.table(SIDE)
                    raise Stop
        self.stands(bench, [(UP,), (UP, DOWN)])

    def test_one_trial_behind_another(self):
        bench = Bench(Family([UP]))
        for count in range(5):
            with bench.trial():
                bench.table(SIDE)
                bench.undo()
                bench.table(TURN)
            bench.entry(0, 0, 0, count)
        self.stands(bench, [(UP,)] + [(((count, 1), (0, 0)),) for count in range(5)])

    def test_a_trial_that_is_not_entered_changes_nothing(self):
        bench = Bench(Family([UP]))
        bench.trial()
        bench.table(DOWN)
        self.stands(bench, [(UP,), (UP, DOWN)])

    def test_trials_of_two_benches(self):
        one, other = Bench(Family([UP])), Bench(Family([UP]))
        with one.trial():
            one.table(DOWN)
            with other.trial():
                other.table(SIDE)
                one.table(TURN)
            self.stands(one, [(UP,), (UP, DOWN), (UP, DOWN, TURN)])
            self.stands(other, [(UP,)])
            other.table(SIDE)
        self.stands(one, [(UP,)])
        self.stands(other, [(UP,), (UP, SIDE)])


class TriedTest(BenchCase):

    def test_what_the_function_returns_itself(self):
        bench = Bench(Family([UP]))
        for thing in (None, [], {}, object(), (1, [2]), bench, 10 ** 999):
            self.assertIs(tried(bench, lambda same: thing), thing)

    def test_the_function_gets_the_bench_in_a_trial(self):
        bench = Bench(Family([UP]))
        bench.table(DOWN)

        def lead(same):
            self.assertIs(same, bench)
            same.undo()
            same.table(SIDE)
            return same.family

        told = tried(bench, lead)
        self.assertEqual(told, Family([UP, SIDE]))
        self.stands(bench, [(UP,), (UP, DOWN)])
        self.assertEqual(tried(function=lead, bench=bench), told)
        self.assertEqual(tried(bench, Bench.kind), ("factor",))
        self.assertIsNone(tried(bench, Bench.undo))
        self.assertEqual(tried(bench, len), 1)
        self.stands(bench, [(UP,), (UP, DOWN)])

    def test_an_exception_passes(self):
        bench = Bench(Family([UP]))
        bench.table(DOWN)

        def fail(same):
            same.undo()
            raise Stop

        with self.assertRaises(Stop):
            tried(bench, fail)
        self.stands(bench, [(UP,), (UP, DOWN)])
        with self.assertRaises(BadNumber):
            tried(bench, lambda same: same.undo(2))
        self.stands(bench, [(UP,), (UP, DOWN)])

    def test_tried_in_tried(self):
        bench = Bench(Family([UP]))

        def outer(same):
            same.table(DOWN)
            inner = tried(same, lambda one: (one.undo(), one.table(SIDE), one.family)[-1])
            return inner, same.family

        self.assertEqual(tried(bench, outer), (Family([UP, SIDE]), Family([UP, DOWN])))
        self.stands(bench, [(UP,)])


class DrawnTest(BenchCase):
    """Benches led by drawn deeds, against a list of families that is kept here."""

    def deed(self, draw, bench, families):
        """Do a deed, or have one refused, and keep the list as it has to be."""
        tables = families[-1]
        count, many = len(tables), len(tables[0])
        act = draw.choice(("table", "drop", "entry", "entry", "same", "undo", "undo"))
        if act == "table":
            table = tuple(tuple(draw.choice((0, 0, 0, 1, 1, 2, 9)) for _ in range(many)) for _ in range(many))
            if count == 3:
                return self.kept(bench, BadTables, "place", None, bench.table, table)
            bench.table(table)
            return families.append(tables + (table,))
        if act == "drop":
            number = draw.randrange(count)
            if count == 1:
                return self.kept(bench, BadNumber, "value", number, bench.drop, number)
            bench.drop(number)
            return families.append(tables[:number] + tables[number + 1:])
        if act == "undo":
            back = draw.choice((1, 1, 2, 3))
            if back >= len(families):
                return self.kept(bench, BadNumber, "value", back, bench.undo, back)
            bench.undo(*[back] * (back > 1 or draw.random() < 0.5))
            del families[-back:]
            return None
        spot = (draw.randrange(count), draw.randrange(many), draw.randrange(many))
        entry = draw.choice((0, 0, 1, 1, 2, 9)) if act == "entry" else tables[spot[0]][spot[1]][spot[2]]
        bench.entry(*spot, entry)
        return families.append(changed(tables, *spot, entry))

    def lead(self, draw, bench, families, deeds, deep):
        """Do some deeds, at times in trials, which may end by an error."""
        for _ in range(deeds):
            if deep and draw.random() < 0.2:
                before = list(families)
                error = draw.random() < 0.5
                try:
                    with bench.trial() as same:
                        self.lead(draw, same, families, draw.randrange(6), deep - 1)
                        if error:
                            raise Stop
                except Stop:
                    self.assertTrue(error)
                families[:] = before
            else:
                self.deed(draw, bench, families)
            self.assertEqual((bench.family.tables, len(bench)), (families[-1], len(families) - 1))

    def test_drawn_deeds(self):
        draw = random.Random(111)
        for tables in drawn(112, 120):
            with self.subTest(tables=tables):
                bench = Bench(Family(tables))
                families = [tables]
                for _ in range(6):
                    self.lead(draw, bench, families, 4, 3)
                    self.stands(bench, families)
                    self.assertEqual(bench.kind(), reckoning.kind_of(families[-1]))
                    self.assertEqual(bench, Bench(Family(families[-1])))

    def test_the_kind_behind_each_deed(self):
        draw = random.Random(113)
        seen = set()
        for tables in drawn(114, 40):
            bench = Bench(Family(tables))
            families = [tables]
            for _ in range(12):
                self.deed(draw, bench, families)
                self.assertEqual(bench.kind(), reckoning.kind_of(families[-1]))
                seen.add(bench.kind())
        self.assertLessEqual({("nil",), ("power", 0), ("power", 1), ("factor",)}, seen)
