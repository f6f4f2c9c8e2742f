"""Words in which only some tables may stand behind others, and how their products grow."""

from growthkinds.errors import BadPairs, BadWord
from growthkinds.growth import kind_of
from growthkinds.products import is_word
from growthkinds.tuples import are_ascending_spots
from growthkinds.webs import Web, heights_of, row_mask, web_of


def refuse_no_pairs(family, thing):
    """Raise BadPairs with any value that is no pairs of the family."""
    if not are_ascending_spots(thing, (len(family), len(family))):
        raise BadPairs(thing)


def goes_by(family, pairs, word):
    """Tell whether each two numbers of a word, one behind the other, are one of the pairs."""
    refuse_no_pairs(family, pairs)
    if not is_word(family, word):
        raise BadWord(word)
    return all([pair in pairs for pair in zip(word, word[1:])])


def kind_by(family, pairs):
    """Give the kind of the products of words that go by the pairs."""
    refuse_no_pairs(family, pairs)
    return kind_of(Web([rows_by(family, pairs, number) for number in range(len(family))]))


def rows_by(family, pairs, number):
    """Give the masks of the rows of a table over pairs of the number of the table ahead and a place, in their order."""
    rows = [row_mask(row) << number * family.many for row in family.tables[number]]
    return [row if (ahead, number) in pairs else 0 for ahead in range(len(family)) for row in rows]


def longest_by(family, pairs):
    """Give the greatest number of numbers of a word that goes by the pairs, or None if there is no greatest one."""
    refuse_no_pairs(family, pairs)
    numbers = range(len(family))
    heights = heights_of(web_of([[[int((one, other) in pairs) for other in numbers] for one in numbers]]))
    # A word of one number goes by any pairs, and each step along a pair adds a number.
    return None if heights is None else 1 + max(heights)


def all_pairs(family):
    """Give all pairs of numbers of tables."""
    numbers = range(len(family))
    return tuple([(one, other) for one in numbers for other in numbers])
