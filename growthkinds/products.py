"""Words of a family, and the products and sizes that belong to them."""

from growthkinds.errors import BadWord
from growthkinds.families import is_below

MOST_NUMBERS = 400


def is_word(family, thing):
    """Tell whether any value is a word of the family."""
    if not isinstance(thing, tuple) or len(thing) > MOST_NUMBERS:
        return False
    return all([is_below(number, len(family)) for number in thing])


def unit(many):
    """Make the product of (): 1 at each (i, i), and 0 else."""
    return tuple([tuple([int(i == j) for j in range(many)]) for i in range(many)])


def row_times(row, table):
    """Multiply a row by a square table."""
    places = range(len(table))
    return tuple([sum([row[k] * table[k][j] for k in places]) for j in places])


def times(one, other):
    """Multiply two square tables, as matrices."""
    return tuple([row_times(row, other) for row in one])


def product(family, word):
    """Multiply the tables of a word in its order."""
    if not is_word(family, word):
        raise BadWord(word)
    result = unit(family.many)
    for number in word:
        result = times(result, family.tables[number])
    return result


def total(table):
    """Add up all entries of a table."""
    return sum([sum(row) for row in table])


def size(family, word):
    """Add up all entries of the product of a word."""
    return total(product(family, word))
