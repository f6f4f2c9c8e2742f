"""Which entries to strike, so that nothing grows beyond a told kind."""

from growthkinds.errors import BadKind, BadNumber
from growthkinds.families import Family
from growthkinds.growth import doubling_place, kind_of, longest_chain, round_place
from growthkinds.kinds import is_kind
from growthkinds.tuples import are_ascending_spots
from growthkinds.walks import doubling_word, round_word
from growthkinds.webs import joined, places_in, web_of

# What a limit of kinds is that lets pass no power.
BELOW_POWERS = -1


def tables_without(tables, cells):
    """Give the tables with 0 at some triples (table, row, place)."""
    return tuple([tuple([tuple([0 if (number, row, place) in cells else entry for place, entry in enumerate(entries)])
                         for row, entries in enumerate(table)])
                  for number, table in enumerate(tables)])


def struck(family, cells):
    """Give the family with 0 at some triples (table, row, place)."""
    if not are_ascending_spots(cells, (len(family), family.many, family.many)):
        raise BadNumber(cells)
    return Family(tables_without(family.tables, cells))


def cells_of_walks(web, word, start, end):
    """List in ascending order the triples of the entries that walks by a word take from a place to another one."""
    passed = [[start]]
    for number in word:
        passed.append(places_in(joined(web.tables[number], passed[-1])))
    cells = []
    goals = 1 << end
    for number, places in reversed(list(zip(word, passed))):
        rows = web.tables[number]
        cells += [(number, row, place) for row in places for place in places_in(rows[row] & goals)]
        goals = sum([1 << row for row in places if rows[row] & goals])
    # Walks may take an entry more than once.
    return sorted(set(cells))


def cells_between(web, start, end):
    """List in ascending order the triples of the entries that any walks take from a place to another one."""
    onward = web.onward[start]
    return [(number, row, place) for number, rows in enumerate(web.tables) for row in places_in(onward)
            for place in places_in(rows[row] & onward) if web.leads(place, end)]


def span_beyond(web, limit):
    """Find two places, perhaps the same one, over which walks show that the kind is higher than a limit, or None.

    The limit is a power, or BELOW_POWERS.
    """
    if not web.knots:
        return None
    place = round_place(web) if limit < 0 else doubling_place(web)
    if place is not None:
        return (place, place)
    # Each link of a chain goes on to a further knot.
    if len(web.knots) <= limit + 1:
        return None
    chain = longest_chain(web, limit + 1)
    return (chain[0][0], chain[-1][1]) if len(chain) > limit else None


def cells_beyond(web, limit):
    """List in ascending order triples of entries that by themselves make the kind higher than a limit, or give None.

    So no lot of entries makes the kind at most the limit, if struck, unless one of these is in it.
    """
    span = span_beyond(web, limit)
    if span is None:
        return None
    start, end = span
    if start != end:
        return cells_between(web, start, end)
    word = round_word(web, start) if limit < 0 else doubling_word(web, start)
    return cells_of_walks(web, word, start, end)


def fewest(family, kind):
    """Give the first of the tuples with the fewest triples that make the kind at most a told one, or None.

    None tells that of at most two entries above 0 none do.
    """
    if not is_kind(kind):
        raise BadKind(kind)
    if kind[0] == "factor":
        return ()
    return fewest_within(web_of(family.tables), kind[1] if kind[0] == "power" else BELOW_POWERS)


def fewest_within(web, limit):
    """Give the first of the tuples with the fewest triples that make the kind at most a limit, or None."""
    ones = cells_beyond(web, limit)
    if ones is None:
        return ()
    pairs = []
    for one in ones:
        others = cells_beyond(web.without(one), limit)
        if others is None:
            return (one,)
        pairs += [(min(one, other), max(one, other)) for other in others]
    for one, other in sorted(set(pairs)):
        if span_beyond(web.without(one).without(other), limit) is None:
            return (one, other)
    return None


def binding(family):
    """Give the ascending tuple of the entries above 0 each of which, struck by itself, makes the kind a lower one."""
    web = web_of(family.tables)
    now = kind_of(web)
    if now == ("nil",):
        return ()
    # Without an entry the kind is never a higher one, and no power is as high as there are places.
    limit = now[1] - 1 if now[0] == "power" else family.many
    return tuple([cell for cell in cells_beyond(web, limit) if span_beyond(web.without(cell), limit) is None])
