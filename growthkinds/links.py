"""Which places lead to others, which are linked, and the shortest words that show it."""

from growthkinds.errors import BadNumber
from growthkinds.families import is_below
from growthkinds.growth import all_links
from growthkinds.walks import doubling_word, joining_word, linking_word
from growthkinds.webs import web_of


def refuse_no_place(family, things):
    """Raise BadNumber with the first of some values that is no place."""
    for thing in things:
        if not is_below(thing, family.many):
            raise BadNumber(thing)


def leads(family, one, other):
    """Tell whether a place leads to another one."""
    return join(family, one, other) is not None


def join(family, one, other):
    """Give a shortest word, perhaps (), whose product has an entry above 0 at (one, other), or None."""
    refuse_no_place(family, (one, other))
    return joining_word(family.tables, one, other)


def links(family):
    """Give the ascending tuple of all links."""
    return tuple(all_links(web_of(family.tables)))


def link_word(family, one, other):
    """Give a shortest word that shows that (one, other) is a link, or None if it is none."""
    refuse_no_place(family, (one, other))
    return linking_word(web_of(family.tables), one, other)


def double_word(family, one):
    """Give a shortest word, not (), whose product has 2 or more at (one, one), or None."""
    refuse_no_place(family, (one,))
    return doubling_word(web_of(family.tables), one)
