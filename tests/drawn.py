"""Families for the tests: some made by hand, and many drawn, the same ones at each run."""

import random

from samples import DOWN, PLAIN, ROUND, SIDE, TURN, UP

NOUGHT = ((0, 0), (0, 0))
UNIT = ((1, 0), (0, 1))

# Each is nil.
NIL = [
    (((0,),),),
    (NOUGHT,),
    (UP,),
    (DOWN, DOWN, NOUGHT),
    (((0, 9, 9, 9), (0, 0, 9, 9), (0, 0, 0, 9), (0, 0, 0, 0)),),
    (((0, 0, 0), (2, 0, 0), (0, 0, 0)), ((0, 0, 0), (0, 0, 0), (0, 3, 0)), ((0, 0, 0), (0, 0, 0), (4, 0, 0))),
]
# Each has finitely many products, though not all long ones are nought.
LEVEL = [
    (((1,),),),
    (((0,),), ((1,),)),
    (UNIT,),
    (((0, 1), (1, 0)),),
    (((1, 9), (0, 0)),),
    (((0, 9), (0, 1)), ((0, 2), (0, 1))),
    (ROUND, ((1, 0, 0), (1, 0, 0), (0, 0, 1))),
    (((1, 1), (0, 0)), ((0, 1), (0, 1))),
    (UP, ((0, 0), (1, 0)), ((1, 0), (1, 0))),
    # Each place leads to the other one, but never by two walks of one and the same word.
    (((1, 0), (1, 0)), ((0, 1), (0, 1))),
]
# Each grows as the power that is told.
POWERS = [
    (1, (SIDE,)),
    (1, (((1, 1, 0), (0, 0, 1), (0, 0, 1)),)),
    (1, (((1, 0, 1, 0), (0, 1, 0, 0), (0, 0, 1, 0), (0, 0, 0, 0)), ((0, 0, 0, 0),) * 4)),
    # Two links, of which none follows the other one.
    (1, (((1, 1, 0, 0), (0, 1, 0, 0), (0, 0, 1, 1), (0, 0, 0, 1)),)),
    (1, (((0, 1, 1, 0), (1, 0, 0, 1), (0, 0, 0, 1), (0, 0, 1, 0)),)),
    (2, (((1, 1, 0), (0, 1, 1), (0, 0, 1)),)),
    # The link (0, 1) is shown by one table, and (2, 3) by another; a third one joins them.
    (2, (((1, 1, 0, 0), (0, 1, 0, 0), (0, 0, 0, 0), (0, 0, 0, 0)),
         ((0, 0, 0, 0), (0, 0, 0, 0), (0, 0, 1, 1), (0, 0, 0, 1)),
         ((0, 0, 0, 0), (0, 0, 5, 0), (0, 0, 0, 0), (0, 0, 0, 0)))),
    (3, (((1, 1, 0, 0), (0, 1, 1, 0), (0, 0, 1, 1), (0, 0, 0, 1)),)),
    (3, (((1, 0, 0, 0), (9, 1, 0, 0), (9, 9, 1, 0), (9, 9, 9, 1)),)),
    (3, (((1, 1, 0, 0), (0, 1, 0, 0), (0, 0, 0, 0), (0, 0, 0, 1)),
         ((1, 0, 0, 0), (0, 1, 2, 0), (0, 0, 1, 0), (0, 0, 0, 0)),
         ((0, 0, 0, 0), (0, 0, 0, 0), (0, 0, 1, 3), (0, 0, 0, 1)))),
]
# Each grows by a factor.
FACTOR = [
    (((2,),),),
    (((9,),), ((0,),)),
    (PLAIN,),
    (TURN,),
    (((1, 1), (1, 0)),),
    (((0, 1, 0), (0, 0, 1), (1, 1, 0)),),
    (((1, 1), (1, 1)), NOUGHT, UNIT),
    (((2, 0), (0, 0)), UP),
    # These double together only, not by one table.
    (UP, DOWN),
    (((1, 1), (0, 0)), ((1, 0), (1, 0))),
    (((1, 1), (0, 1)), ((1, 0), (1, 1))),
    (((0, 0, 0, 0), (0, 0, 0, 1), (1, 0, 0, 0), (0, 0, 0, 0)), ((0, 1, 0, 0), (0, 0, 0, 0), (1, 0, 0, 0), (0, 1, 1, 1))),
]


def by_hand():
    """List the tables made by hand, each beside its kind."""
    told = [(tables, ("nil",)) for tables in NIL] + [(tables, ("power", 0)) for tables in LEVEL]
    told += [(tables, ("power", power)) for power, tables in POWERS]
    return told + [(tables, ("factor",)) for tables in FACTOR]


def upward(draw, many, nought):
    """Draw a table whose entries go only upward, with 0 or 1 beside."""
    return [[draw.choice((0, 1, 1)) if i == j else 0 if j < i or draw.random() < nought else draw.choice((1, 1, 2, 9))
             for j in range(many)] for i in range(many)]


def strictly_upward(draw, many, nought):
    """Draw a table whose entries go only upward, with 0 beside."""
    return [[0 if j <= i or draw.random() < nought else draw.randrange(1, 10) for j in range(many)]
            for i in range(many)]


def anyhow(draw, many, nought):
    """Draw a table with entries anywhere."""
    return [[0 if draw.random() < nought else draw.choice((1, 1, 1, 1, 2, 9)) for _ in range(many)]
            for _ in range(many)]


def one_at_most(draw, many, nought):
    """Draw a table with at most one 1 in each row, or in each column."""
    goals = [None if draw.random() < nought / 2 else draw.randrange(many) for _ in range(many)]
    rows = [[int(goal == j) for j in range(many)] for goal in goals]
    return [list(row) for row in zip(*rows)] if draw.random() < 0.3 else rows


def turned(table, order):
    """Give the places of a table other numbers."""
    return tuple(tuple(table[i][j] for j in order) for i in order)


def drawn(seed, count):
    """Draw the tables of so many families, of one to three tables and one to four places."""
    draw = random.Random(seed)
    families = []
    for _ in range(count):
        many = draw.randrange(1, 5)
        order = draw.sample(range(many), many)
        shape = draw.choice((upward, strictly_upward, anyhow, anyhow, one_at_most))
        nought = draw.choice((0.3, 0.5, 0.7, 0.8, 0.9))
        tables = [shape(draw, many, nought) for _ in range(draw.randrange(1, 4))]
        families.append(tuple(turned(table, order) for table in tables))
    return families
