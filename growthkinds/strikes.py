"""Which entries to strike, so that nothing grows beyond a told kind."""

from growthkinds.errors import BadKind, BadNumber
from growthkinds.families import Family
from growthkinds.kinds import is_kind, no_higher
from growthkinds.papers import kind_of
from growthkinds.tuples import are_ascending_spots


def tables_without(tables, cells):
    """Give the tables with 0 at some triples (table, row, place)."""
    return tuple([tuple([tuple([0 if (number, row, place) in cells else entry for place, entry in enumerate(entries)])
                         for row, entries in enumerate(table)])
                  for number, table in enumerate(tables)])


def struck(family, cells):
    """Give the family with 0 at some triples (table, row, place)."""
    if not are_ascending_spots(cells, (len(family), family.many, family.many)):
        raise BadNumber(cells)
    return Family(tables_without(family.tables, cells))


def filled_cells(family):
    """List the triples of all entries above 0 in ascending order."""
    return [(number, row, place) for number, table in enumerate(family.tables)
            for row, entries in enumerate(table) for place, entry in enumerate(entries) if entry > 0]


def kind_without(family, cells):
    """Give the kind of a family with some entries struck."""
    return kind_of(tables_without(family.tables, cells))


def fewest(family, kind):
    """Give the first of the tuples with the fewest triples that make the kind at most a told one, or None.

    None tells that of at most two entries above 0 none do.
    """
    if not is_kind(kind):
        raise BadKind(kind)
    filled = filled_cells(family)
    ones = [(cell,) for cell in filled]
    pairs = [(one, other) for one in filled for other in filled if one < other]
    for cells in [()] + ones + pairs:
        if no_higher(kind_without(family, cells), kind):
            return cells
    return None


def binding(family):
    """Give the ascending tuple of the entries above 0 each of which, struck by itself, makes the kind a lower one."""
    # With an entry less the kind is never a higher one.
    now = kind_of(family.tables)
    return tuple([cell for cell in filled_cells(family) if kind_without(family, (cell,)) != now])
