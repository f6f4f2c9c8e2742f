"""The greatest, the least and the average size of the products of all words of a told length."""

from math import gcd

from growthkinds.errors import BadNumber
from growthkinds.families import is_below
from growthkinds.products import times, total, unit

MOST_LENGTH = 6


def sizes_by_word(family, length):
    """Map each word of so many numbers to the size of its product, the words in ascending order."""
    if not is_below(length, MOST_LENGTH + 1):
        raise BadNumber(length)
    layer = [((), unit(family.many))]
    for _ in range(length):
        layer = [(word + (number,), times(result, table))
                 for word, result in layer for number, table in enumerate(family.tables)]
    return {word: total(result) for word, result in layer}


def first_word(sizes, wanted):
    """Give the first of some words that has a size."""
    return [word for word, size in sizes.items() if size == wanted][0]


def greatest(family, length):
    """Give the pair of the greatest size of a product of so many numbers, and the first such word."""
    sizes = sizes_by_word(family, length)
    most = max(list(sizes.values()))
    return (most, first_word(sizes, most))


def least(family, length):
    """Give the pair of the least size of a product of so many numbers, and the first such word."""
    sizes = sizes_by_word(family, length)
    fewest = min(list(sizes.values()))
    return (fewest, first_word(sizes, fewest))


def average(family, length):
    """Give the sum of all sizes and the number of words, both divided by their greatest common divisor."""
    sizes = sizes_by_word(family, length)
    altogether = sum(list(sizes.values()))
    divisor = gcd(altogether, len(sizes))
    return (altogether // divisor, len(sizes) // divisor)
