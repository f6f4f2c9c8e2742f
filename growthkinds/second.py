"""The kind of a family by another way: by the rows that products have, and not by walks from place to place."""

from growthkinds.products import times, total, unit


def plus(one, other):
    """Add two tables, entry by entry."""
    return tuple([tuple([a + b for a, b in zip(row, beside)]) for row, beside in zip(one, other)])


def power_of(table):
    """Multiply a table as often by itself as there are places."""
    result = unit(len(table))
    for _ in table:
        result = times(result, table)
    return result


def all_added(tables):
    """Add up the tables, so that what is multiplied of it adds up the products of all words of a length."""
    result = tables[0]
    for table in tables[1:]:
        result = plus(result, table)
    return result


def at_most(rows, most):
    """Give rows with most in the place of each entry above it."""
    return tuple([tuple([min(most, entry) for entry in row]) for row in rows])


def rows_made(tables, starts, most):
    """List the rows at some places that products of words, not (), have, with most for each entry above it.

    There are but finitely many, and what a further table makes of them depends on them alone.
    """
    ones = unit(len(tables[0]))
    layer = [tuple([ones[start] for start in starts])]
    found = {}
    while layer:
        later = []
        for rows in layer:
            for table in tables:
                result = at_most(times(rows, table), most)
                if result not in found:
                    found[result] = True
                    later.append(result)
        layer = later
    return list(found)


def doubles(tables, place):
    """Tell whether some product of a word that is not () has 2 or more at (place, place)."""
    return any([rows[0][place] > 1 for rows in rows_made(tables, (place,), 2)])


def is_link(tables, one, other):
    """Tell whether two different places are a link."""
    return any([row[one] > 0 and row[other] > 0 and beside[other] > 0
                for row, beside in rows_made(tables, (one, other), 1)])


def most_links(tables):
    """Find the greatest number of links of a chain, where nothing grows by a factor."""
    places = range(len(tables[0]))
    links = [(one, other) for one in places for other in places if one != other and is_link(tables, one, other)]
    # With 1 added at each (i, i), what is above 0 is to where any number of steps leads, up to as many as are needed.
    leading = power_of(plus(unit(len(places)), all_added(tables)))
    lengths = {link: 0 for link in links}
    # No link stands twice in a chain, so that after a round for each link no chain can get longer.
    for _ in links:
        lengths = {link: 1 + max([lengths[later] for later in links if leading[link[1]][later[0]] > 0], default=0)
                   for link in links}
    return max(list(lengths.values()), default=0)


def kind_too(family):
    """Give the kind of a family."""
    tables = family.tables
    # Of a nil family all products of as many numbers as there are places are nought, of any other one they are not.
    if total(power_of(all_added(tables))) == 0:
        return ("nil",)
    if any([doubles(tables, place) for place in range(family.many)]):
        return ("factor",)
    return ("power", most_links(tables))
