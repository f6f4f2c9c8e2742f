"""Tests of the exceptions: point [2], and the interface under errors.py."""

import unittest

from growthkinds import errors
from growthkinds.families import Family
from samples import SIDE, Odd, nested

FIELDS = {
    "BadTables": "place",
    "BadWord": "value",
    "BadNumber": "value",
    "BadKind": "value",
    "BadPairs": "value",
    "BadPaper": "place",
    "BadText": "line",
    "Grows": "paper",
    "TooMany": "most",
}
REFUSALS = ["BadTables", "BadWord", "BadNumber", "BadKind", "BadPairs", "BadPaper", "BadText"]


def values():
    """Make values of many kinds."""
    return [
        None, True, False, 0, 1, -1, 10 ** 999, "", "form", "two\nlines", b"", b"ab", (), (0, 1), SIDE, nested(50),
        [], [1, [2]], {}, {"a": 1}, {1, 2}, frozenset(), object(), Odd(), len, int, ValueError("no"), Family([SIDE]),
        ("factor", 0, (0, 1)),
    ]


class FieldTest(unittest.TestCase):

    def test_made_by_position(self):
        for name, field in FIELDS.items():
            for value in values():
                with self.subTest(name=name, kind=type(value).__name__):
                    self.assertIs(getattr(getattr(errors, name)(value), field), value)

    def test_made_by_the_name_of_the_field(self):
        for name, field in FIELDS.items():
            for value in values():
                with self.subTest(name=name, kind=type(value).__name__):
                    self.assertIs(getattr(getattr(errors, name)(**{field: value}), field), value)

    def test_the_field_is_kept_when_raised(self):
        for name, field in FIELDS.items():
            for value in values():
                with self.subTest(name=name, kind=type(value).__name__):
                    error = getattr(errors, name)
                    with self.assertRaises(error) as caught:
                        raise error(value)
                    self.assertIs(getattr(caught.exception, field), value)

    def test_a_list_in_the_field_is_no_copy(self):
        for name, field in FIELDS.items():
            with self.subTest(name=name):
                value = [1]
                error = getattr(errors, name)(value)
                value.append(2)
                self.assertEqual(getattr(error, field), [1, 2])

    def test_two_errors_keep_their_own_fields(self):
        for name, field in FIELDS.items():
            with self.subTest(name=name):
                one, other = getattr(errors, name)(1), getattr(errors, name)(2)
                self.assertEqual((getattr(one, field), getattr(other, field)), (1, 2))


class ClassTest(unittest.TestCase):

    def test_growth_error_stands_under_value_error(self):
        self.assertEqual(errors.GrowthError.__bases__, (ValueError,))

    def test_growth_error_is_made_without_fields(self):
        error = errors.GrowthError()
        self.assertIs(type(error), errors.GrowthError)
        with self.assertRaises(errors.GrowthError):
            raise errors.GrowthError()
        with self.assertRaises(ValueError):
            raise errors.GrowthError

    def test_refusals_stand_straight_under_growth_error(self):
        for name in REFUSALS:
            with self.subTest(name=name):
                self.assertEqual(getattr(errors, name).__bases__, (errors.GrowthError,))

    def test_the_other_two_stand_straight_under_pythons_own(self):
        self.assertEqual(errors.Grows.__bases__, (LookupError,))
        self.assertEqual(errors.TooMany.__bases__, (OverflowError,))

    def test_none_stands_under_another_one(self):
        for one in FIELDS:
            for other in FIELDS:
                if one != other:
                    with self.subTest(one=one, other=other):
                        self.assertFalse(issubclass(getattr(errors, one), getattr(errors, other)))

    def test_the_other_two_are_no_growth_errors(self):
        for error in (errors.Grows, errors.TooMany):
            self.assertFalse(issubclass(error, errors.GrowthError))
            self.assertFalse(issubclass(error, ValueError))

    def test_each_is_caught_by_the_class_above(self):
        for name in REFUSALS:
            with self.subTest(name=name), self.assertRaises(errors.GrowthError):
                raise getattr(errors, name)(0)
        with self.assertRaises(LookupError):
            raise errors.Grows(("factor", 0, (0,)))
        with self.assertRaises(OverflowError):
            raise errors.TooMany(400)
