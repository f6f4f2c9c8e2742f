"""Tables, wrong values of many kinds, and a check that several tests share."""

import operator
import unittest
from unittest import mock

from growthkinds.families import Family

SIDE = ((1, 3), (0, 1))
UP = ((0, 1), (0, 0))
DOWN = ((0, 0), (2, 0))
PLAIN = ((1, 2), (3, 4))
TURN = ((0, 1), (5, 0))
ROUND = ((0, 1, 0), (0, 0, 1), (1, 0, 0))
FOUR = ((9, 9, 9, 9),) * 4
FIVE = ((1, 1, 1, 1, 1),) * 5


class Odd:
    """An object that equals everything, and of which nothing else can be asked."""

    def __eq__(self, other):
        return True

    def __len__(self):
        raise RuntimeError("no length")

    def __iter__(self):
        raise RuntimeError("no items")


def nested(deep):
    """Make a tuple that is nested so deep."""
    thing = ()
    for _ in range(deep):
        thing = (thing,)
    return thing


def strange():
    """Make values that are neither integers nor tuples nor lists."""
    return [
        None, True, False, "", "0", "1", "ab", "12", b"", b"0", {}, {0: 0}, {0, 1}, frozenset([0]), range(1),
        range(2), object(), int, len, tuple, Odd(), mock.ANY, ValueError("0"), Family([SIDE]), iter([0]),
        (entry for entry in (0, 1)),
    ]


def no_integers():
    """Make values of many kinds, none of which is an integer."""
    return strange() + [(), (0,), (1, 0), SIDE, nested(50), [], [0], [[0]]]


def no_numbers(limit):
    """Make values of many kinds, none of which is an integer from 0 to limit - 1."""
    return [-1, limit, limit + 1, -limit, 10 ** 999, -(10 ** 999)] + no_integers()


def no_tables():
    """Make values of many kinds, none of which is a table, whatever number of places is wanted."""
    many = strange() + [0, 1, (), (0,), (1, 0), nested(50), [], [0], [(1,)], [(1, 2), (3, 4)], [[1, 2], [3, 4]]]
    for entry in no_numbers(10):
        many += [((entry,),), ((0, 1), (entry, 0)), ((1, 2, 3), (4, 5, 6), (7, 8, entry))]
    # Rows of another length than there are rows.
    many += [((),), ((1, 2),), ((1,), (2,)), ((1, 2), (3,)), ((1,), (2, 3)), ((1, 2), (3, 4, 5)), ((1, 2, 3), (4, 5, 6))]
    # Rows that are no tuples, and things that could pass for tables.
    many += [((1, 2), [3, 4]), ([1, 2], (3, 4)), ([1],), ((1, 2), "34"), ("1",), (b"1",), ("12", "34"), ((1, 2), None)]
    many += [((1, 2), 3), (1,), (1, 2), ({0: 1},), ({1},), (range(1),), (None,), (Odd(),), (mock.ANY,)]
    many += [{(1,): 1}, {(1,)}, frozenset([(1,)]), iter([(1,)]), (SIDE,), (SIDE, SIDE)]
    # More than four places.
    return many + [FIVE, ((1,) * 6,) * 6, ((0,) * 30,) * 30]


def operators():
    """List the operators between two values, except == and !=."""
    return [
        operator.add, operator.sub, operator.mul, operator.truediv, operator.floordiv, operator.mod, operator.pow,
        operator.matmul, operator.and_, operator.or_, operator.xor, operator.lshift, operator.rshift, divmod,
        operator.iadd, operator.imul, operator.ior, operator.lt, operator.le, operator.gt, operator.ge,
    ]


def spots(thing, place=()):
    """List where the parts of nested tuples stand, the whole thing first."""
    found = [place]
    if type(thing) is tuple:
        for at, part in enumerate(thing[:8]):
            found += spots(part, place + (at,))
    return found


def part_at(thing, place):
    """Give the part at a spot."""
    for at in place:
        thing = thing[at]
    return thing


def put(thing, place, part):
    """Give nested tuples with another part at a spot."""
    if not place:
        return part
    at = place[0]
    return thing[:at] + (put(thing[at], place[1:], part),) + thing[at + 1:]


def near_misses(part):
    """List what is close to a part of nested tuples, but may not stand instead of it."""
    many = []
    if type(part) is int:
        many += [part - 1, part + 1, -part, str(part), (part,), [part]]
    if type(part) is str:
        many += [part.upper(), part + " ", part[:-1], part.encode(), [part], (part,)]
    if type(part) is tuple:
        many += [list(part), part[::-1], part + part, part + (0,), part + ((),), ((),) + part, part[:-1], part[1:]]
        many += [(part,), str(part), dict(enumerate(part)), iter(part), part + (None,), (True,) + part[1:]]
        many += [part[:1] * len(part), part[:1] + part, part + part[-1:]]
    return many


def several_otherwise(draw, thing, others):
    """Put other parts in the place of two to four parts of nested tuples; others lists what may stand for a part."""
    for _ in range(draw.randrange(2, 5)):
        place = draw.choice(spots(thing)[1:] or [()])
        thing = put(thing, place, draw.choice(others(part_at(thing, place))))
        if type(thing) is not tuple:
            break
    return thing


class AlikeCase(unittest.TestCase):
    """A test case that looks at what is equal."""

    def alike(self, one, other, whether):
        """Check == and != in both orders."""
        self.assertIs(one == other, whether)
        self.assertIs(other == one, whether)
        self.assertIs(one != other, not whether)
        self.assertIs(other != one, not whether)


class RefusalCase(unittest.TestCase):
    """A test case that looks closely at what a call refuses."""

    def refused(self, error, field, value, call, *args, **named):
        """Check that a call raises just this error, with this very value in its field."""
        with self.assertRaises(error) as caught:
            call(*args, **named)
        self.assertIs(type(caught.exception), error)
        self.assertIs(getattr(caught.exception, field), value)
