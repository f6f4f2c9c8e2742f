"""The greatest, the least and the average size of the products of all words of a told length."""

from math import gcd

from growthkinds.errors import BadNumber
from growthkinds.families import is_below
from growthkinds.products import ROWS_BY

MOST_LENGTH = 6


def refuse_no_length(thing):
    """Raise BadNumber with any value that is no length."""
    if not is_below(thing, MOST_LENGTH + 1):
        raise BadNumber(thing)


def sums_of_columns(family, length, sign):
    """Map the sums of the columns of products of so many numbers, with a sign, to the first words of such products."""
    row_by = ROWS_BY[family.many - 1]
    numbered = [(number, list(zip(*table))) for number, table in enumerate(family.tables)]
    words = {(sign,) * family.many: ()}
    for _ in range(length):
        longer = {}
        for sums, word in words.items():
            for number, columns in numbered:
                longer.setdefault(row_by(sums, columns), word + (number,))
        words = longer
    return words


def sums_of_rows(family, length):
    """Map the sums of the rows of products of so many numbers to the first words of such products."""
    row_by = ROWS_BY[family.many - 1]
    words = {(1,) * family.many: ()}
    for _ in range(length):
        longer = {}
        for number, table in enumerate(family.tables):
            for sums, word in words.items():
                longer.setdefault(row_by(sums, table), (number,) + word)
        words = longer
    return words


def most_by_sign(family, length, sign):
    """Give the pair of the greatest size of a product of so many numbers, with a sign, and the first such word.

    The size of a product is that of the sums of the columns of its first half by those of the rows of its second
    half, and halves are few. Words of equal sums go on alike, so that only the first one of them counts.
    """
    row_by = ROWS_BY[family.many - 1]
    first = sums_of_columns(family, length // 2, sign)
    second = sums_of_rows(family, length - length // 2)
    ends = list(second)
    found = []
    for sums, word in first.items():
        sizes = row_by(sums, ends)
        most = max(sizes)
        found.append((most, word + second[ends[sizes.index(most)]]))
    # Of alike sizes max gives the first one, and the words stand in their order.
    return max(found, key=size_first)


def size_first(pair):
    """Give what counts of a pair of a size and a word."""
    return pair[0]


def greatest(family, length):
    """Give the pair of the greatest size of a product of so many numbers, and the first such word."""
    refuse_no_length(length)
    return most_by_sign(family, length, 1)


def least(family, length):
    """Give the pair of the least size of a product of so many numbers, and the first such word."""
    refuse_no_length(length)
    most, word = most_by_sign(family, length, -1)
    return (-most, word)


def average(family, length):
    """Give the sum of all sizes and the number of words, both divided by their greatest common divisor."""
    refuse_no_length(length)
    # The tables added up, multiplied by themselves, are the products of all words of a length added up.
    added = [[sum(entries) for entries in zip(*rows)] for rows in zip(*family.tables)]
    row_by = ROWS_BY[family.many - 1]
    sums = (1,) * family.many
    count = 1
    for _ in range(length):
        sums = row_by(sums, added)
        count *= len(family)
    altogether = sum(sums)
    divisor = gcd(altogether, count)
    return (altogether // divisor, count // divisor)
