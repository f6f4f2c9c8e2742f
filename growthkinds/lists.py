"""All products of a family and all their sizes, where they are finitely many."""

from growthkinds.errors import Grows, TooMany
from growthkinds.families import MOST_PLACES
from growthkinds.kinds import kind, no_higher, paper
from growthkinds.products import ROWS_BY, unit

MOST_PRODUCTS = 400
# What stands in a product behind its rows, so that all products have as many.
NO_ROW = ()


def images_of_rows(family):
    """Map each row that products have, and NO_ROW, to what the tables make of it."""
    row_by = ROWS_BY[family.many - 1]
    columns = [list(zip(*table)) for table in family.tables]
    images = {NO_ROW: [NO_ROW for _ in columns]}
    waiting = list(unit(family.many))
    while waiting:
        row = waiting.pop()
        if row not in images:
            images[row] = [row_by(row, sides) for sides in columns]
            waiting += images[row]
            # At each place there are at most as many rows as products.
            if len(images) > MOST_PRODUCTS * family.many + 1:
                raise TooMany(MOST_PRODUCTS)
    return images


def numbered_products(family):
    """List the rows that products have in ascending order, and the products as tuples of the numbers of their rows.

    Products have few rows, so that it pays to multiply each row once, and then to deal with numbers.
    """
    images = images_of_rows(family)
    rows = sorted(images)
    numbers = {row: number for number, row in enumerate(rows)}
    onward = [[numbers[images[row][at]] for row in rows] for at in range(len(family))]
    first = unit(family.many) + (NO_ROW,) * (MOST_PLACES - family.many)
    return rows, all_behind(tuple([numbers[row] for row in first]), onward)


def all_behind(first, onward):
    """List the products as tuples of numbers of rows, with for each table to which row it leads from each row."""
    layer = [first]
    found = set(layer)
    while layer:
        later = []
        for a, b, c, d in layer:
            for goals in onward:
                result = (goals[a], goals[b], goals[c], goals[d])
                if result not in found:
                    found.add(result)
                    later.append(result)
        if len(found) > MOST_PRODUCTS:
            raise TooMany(MOST_PRODUCTS)
        layer = later
    return sorted(found)


def finite_products(family):
    """Give what numbered_products does, unless there are infinitely many products, or too many."""
    # There are finitely many exactly if nothing grows as a power above 0, or by a factor.
    if not no_higher(kind(family), ("power", 0)):
        raise Grows(paper(family))
    return numbered_products(family)


def all_products(family):
    """Give the ascending tuple of all different products, that of () too."""
    rows, products = finite_products(family)
    many = family.many
    # The rows are numbered in their order, so that the products stand in theirs.
    return tuple([(rows[a], rows[b], rows[c], rows[d])[:many] for a, b, c, d in products])


def sizes_of(family):
    """Give the ascending tuple of all different sizes of products."""
    rows, products = finite_products(family)
    sums = [sum(row) for row in rows]
    return tuple(sorted({sums[a] + sums[b] + sums[c] + sums[d] for a, b, c, d in products}))
