"""Webs: where the entries of some tables are above 0, as masks, and which places lead to which.

A mask is an integer with a bit for each of some places. That of a row tells at which places its entries are above 0
and, in the bits behind those of all places, at which of them they are 2 or more.
"""

# How many places a web may have, and the mask of all of them.
MOST_IN_WEB = 12
PLACES = 4095
# The mask of a row of one entry, for each entry.
MARKS = (0, 1, 4097, 4097, 4097, 4097, 4097, 4097, 4097, 4097)


def row_mask(row):
    """Give the mask of a row of a table."""
    mask = 0
    for entry in row[::-1]:
        mask += mask + MARKS[entry]
    return mask


def places_in(mask):
    """List the places of a mask in ascending order."""
    places = []
    while mask > 0:
        rest = mask & mask - 1
        places.append((mask ^ rest).bit_length() - 1)
        mask = rest
    return places


def joined(rows, places):
    """Give the mask of all places to which rows have steps from some places."""
    mask = 0
    for place in places:
        mask |= rows[place]
    return mask & PLACES


def together(tables):
    """Give for each place the mask of its rows in all tables together."""
    steps = tables[0]
    for rows in tables[1:]:
        steps = [one | other for one, other in zip(steps, rows)]
    return steps


def onward_of(steps):
    """Give for each place the mask of the places to which one step or more go from it."""
    onward = [row & PLACES for row in steps]
    for place in range(len(steps)):
        # What leads to this place leads to all that is onward of it.
        through = onward[place]
        onward = [mask | through if mask >> place & 1 else mask for mask in onward]
    return onward


def knots_of(onward):
    """Map each mask that is onward of places that lead to themselves to the mask of these places.

    Just those of such places that lead to one another have the same places onward of them.
    """
    knots = {}
    for place, mask in enumerate(onward):
        if mask >> place & 1:
            knots[mask] = knots.get(mask, 0) | 1 << place
    return knots


class Web:
    """The masks of the rows of some tables, and what follows from them."""

    def __init__(self, tables):
        self.tables = tables
        self.steps = together(tables)
        self.onward = onward_of(self.steps)
        self.knots = knots_of(self.onward)

    def knot_at(self, place):
        """Give the mask of the places that lead to a place and to which it leads, 0 if it does not lead to itself."""
        onward = self.onward[place]
        return self.knots[onward] if onward >> place & 1 else 0

    def leads(self, one, other):
        """Tell whether a place leads to another one by one step or more."""
        return self.onward[one] >> other & 1 == 1

    def without(self, cell):
        """Give the web with 0 at a triple (table, row, place)."""
        number, row, place = cell
        rows = list(self.tables[number])
        # The mark of 2 has both bits that there are for a place.
        rows[row] -= rows[row] & (MARKS[2] << place)
        return Web(self.tables[:number] + [rows] + self.tables[number + 1:])


def web_of(tables):
    """Make the web of tables that are written out in entries."""
    return Web([[row_mask(row) for row in table] for table in tables])


def heights_of(web):
    """Give each place the greatest number of steps that can follow it, or None if there is no greatest one."""
    if web.knots:
        return None
    heights = [0 for _ in web.onward]
    # From where a step goes to, fewer places are onward, so that lesser masks come first.
    for mask, place in sorted([(mask, place) for place, mask in enumerate(web.onward)]):
        heights[place] = max([heights[later] + 1 for later in places_in(mask)], default=0)
    return tuple(heights)
