"""Words of a family, and the products and sizes that belong to them."""

from growthkinds.errors import BadWord
from growthkinds.families import is_below

MOST_NUMBERS = 400


def is_word(family, thing):
    """Tell whether any value is a word of the family."""
    if not isinstance(thing, tuple) or len(thing) > MOST_NUMBERS:
        return False
    count = len(family)
    return all([is_below(number, count) for number in thing])


def unit(many):
    """Make the product of (): 1 at each (i, i), and 0 else."""
    return tuple([tuple([int(i == j) for j in range(many)]) for i in range(many)])


def one_by(row, columns):
    """Multiply a row of one entry by columns."""
    return tuple([row[0] * column[0] for column in columns])


def two_by(row, columns):
    """Multiply a row of two entries by columns."""
    a, b = row
    return tuple([a * p + b * q for p, q in columns])


def three_by(row, columns):
    """Multiply a row of three entries by columns."""
    a, b, c = row
    return tuple([a * p + b * q + c * r for p, q, r in columns])


def four_by(row, columns):
    """Multiply a row of four entries by columns."""
    a, b, c, d = row
    return tuple([a * p + b * q + c * r + d * s for p, q, r, s in columns])


# Written out for each number of entries, since sums over rows of any length take more than twice the time.
ROWS_BY = (one_by, two_by, three_by, four_by)


def times(rows, table):
    """Multiply rows by a square table of at most four places, as matrices."""
    columns = list(zip(*table))
    row_by = ROWS_BY[len(table) - 1]
    return tuple([row_by(row, columns) for row in rows])


def paired(known, numbers):
    """Multiply two and two neighbours among known products, told by their numbers, and give the numbers of the results.

    The results are added to what is known, each pair once, however often it stands there. What is left over at the
    end stays.
    """
    pairs = list(zip(numbers[::2], numbers[1::2]))
    found = {}
    for pair in pairs:
        if pair not in found:
            found[pair] = len(known)
            known.append(times(known[pair[0]], known[pair[1]]))
    return [found[pair] for pair in pairs] + numbers[2 * len(pairs):]


def product(family, word):
    """Multiply the tables of a word in its order."""
    if not is_word(family, word):
        raise BadWord(word)
    if word == ():
        return unit(family.many)
    # Long words hold the same numbers beside each other again and again, so it pays to multiply neighbours first.
    known = list(family.tables)
    numbers = list(word)
    while len(numbers) > 1:
        numbers = paired(known, numbers)
    return known[numbers[0]]


def total(table):
    """Add up all entries of a table."""
    return sum([sum(row) for row in table])


def size(family, word):
    """Add up all entries of the product of a word."""
    return total(product(family, word))
