"""Lots of places, and which words make () of the lot of all places, so that their products are nought."""

from growthkinds.errors import BadNumber
from growthkinds.families import is_below
from growthkinds.products import is_word
from growthkinds.tuples import begins_with_text, is_ascending, is_ascending_below
from growthkinds.walks import shortest_word, shortest_words

NO_PLACE = ()


def all_places(family):
    """Give the lot of all places."""
    return tuple(range(family.many))


def lot_behind(table, lot):
    """Give the lot of all places to which a step by a table goes from some place of a lot."""
    return tuple([j for j in range(len(table)) if any([table[i][j] > 0 for i in lot])])


def lots_behind(table, lot):
    """List the one lot that a table makes of a lot."""
    return [lot_behind(table, lot)]


def made(family, number, lot):
    """Give what a table makes of a lot."""
    if not is_below(number, len(family)):
        raise BadNumber(number)
    if not is_ascending_below(lot, family.many):
        raise BadNumber(lot)
    return lot_behind(family.tables[number], lot)


def nought_word(family):
    """Give the first word whose product is nought, shorter ones ahead, then as tuples are ordered, or None."""
    return shortest_word(family.tables, all_places(family), NO_PLACE, lots_behind)


def lots_made(family):
    """Give the ascending tuple of all lots that words make of the lot of all places."""
    return tuple(sorted(list(shortest_words(family.tables, all_places(family), lots_behind))))


def nought_paper(family):
    """Give ("word", a word whose product is nought), or ("closed", a closed lot of lots)."""
    word = nought_word(family)
    if word is not None:
        return ("word", word)
    return ("closed", lots_made(family))


def is_closed(family, thing):
    """Tell whether any value is a closed lot of lots."""
    if not isinstance(thing, tuple) or not all([is_ascending_below(lot, family.many) for lot in thing]):
        return False
    if not is_ascending(thing) or NO_PLACE in thing or all_places(family) not in thing:
        return False
    return all([lot_behind(table, lot) in thing for lot in thing for table in family.tables])


def is_nought_word(family, thing):
    """Tell whether any value is a word whose product is nought."""
    if not is_word(family, thing):
        return False
    lot = all_places(family)
    for number in thing:
        lot = lot_behind(family.tables[number], lot)
    return lot == NO_PLACE


def is_nought_paper(family, thing):
    """Tell whether any value is a pair that shows whether some product is nought."""
    if not begins_with_text(thing) or len(thing) != 2:
        return False
    if thing[0] == "word":
        return is_nought_word(family, thing[1])
    return thing[0] == "closed" and is_closed(family, thing[1])
