"""All products of a family and all their sizes, where they are finitely many."""

from growthkinds.errors import Grows, TooMany
from growthkinds.kinds import kind, no_higher, paper
from growthkinds.products import times, total, unit

MOST_PRODUCTS = 400


def all_products(family):
    """Give the ascending tuple of all different products, that of () too."""
    # There are finitely many exactly if nothing grows as a power above 0, or by a factor.
    if not no_higher(kind(family), ("power", 0)):
        raise Grows(paper(family))
    layer = [unit(family.many)]
    found = set(layer)
    while layer:
        later = []
        for one in layer:
            for table in family.tables:
                result = times(one, table)
                if result not in found:
                    found.add(result)
                    later.append(result)
        if len(found) > MOST_PRODUCTS:
            raise TooMany(MOST_PRODUCTS)
        layer = later
    return tuple(sorted(found))


def sizes_of(family):
    """Give the ascending tuple of all different sizes of products."""
    return tuple(sorted({total(one) for one in all_products(family)}))
