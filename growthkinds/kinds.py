"""The kind of a family, papers on it, and the order of the kinds."""

from growthkinds.errors import BadKind, BadPaper
from growthkinds.families import is_below, is_integer
from growthkinds.growth import kind_of
from growthkinds.papers import paper_of
from growthkinds.products import is_word, product
from growthkinds.tuples import begins_with_text
from growthkinds.webs import places_in, web_of

# How many things a paper consists of, and its first word.
FORMS = ((2, "nil"), (3, "factor"), (4, "power"))
# The first words of kinds, lower ones ahead.
ORDER = ("nil", "power", "factor")


def kind(family):
    """Give the kind of a family."""
    return kind_of(web_of(family.tables))


def paper(family):
    """Give a paper on the kind of a family."""
    return paper_of(family.tables)


def check(family, thing):
    """Give the first word of a paper that holds."""
    wrong = wrong_part(family, thing)
    if wrong is not None:
        raise BadPaper(wrong)
    return thing[0]


def wrong_part(family, thing):
    """Give the word of what is wrong first with any value as a paper, or None if it holds."""
    if not begins_with_text(thing) or (len(thing), thing[0]) not in FORMS:
        return "form"
    if thing[0] == "nil":
        return None if are_heights(family, thing[1]) else "heights"
    if thing[0] == "factor":
        return wrong_in_factor(family, thing[1], thing[2])
    return wrong_in_power(family, thing[1], thing[2], thing[3])


def are_heights(family, thing):
    """Tell whether any value is an integer for each place, so that each step goes to a lesser one."""
    if not isinstance(thing, tuple) or len(thing) != family.many or not all([is_integer(one) for one in thing]):
        return False
    # If each step goes to a lesser one, so do all steps in a row.
    onward = web_of(family.tables).onward
    return all([thing[i] > thing[j] for i in range(family.many) for j in places_in(onward[i])])


def wrong_in_factor(family, place, word):
    """Give the word of what is wrong first with the parts of a factor's paper, or None."""
    if not is_below(place, family.many):
        return "place"
    # The product of () has no 2, so it is refused with the others.
    if not is_word(family, word) or product(family, word)[place][place] < 2:
        return "word"
    return None


def wrong_in_power(family, power, triples, joins):
    """Give the word of what is wrong first with the parts of a power's paper, or None."""
    if not is_integer(power) or power < 0:
        return "number"
    if not isinstance(triples, tuple) or len(triples) != power or not all([shows_link(family, one) for one in triples]):
        return "links"
    if not are_joins(family, triples, joins):
        return "joins"
    return None if kind(family) == ("power", power) else "kind"


def shows_link(family, thing):
    """Tell whether any value is a triple of a link's two places and a word that shows it."""
    if not isinstance(thing, tuple) or len(thing) != 3:
        return False
    one, other, word = thing
    if not is_below(one, family.many) or not is_below(other, family.many) or one == other:
        return False
    # The product of () has 0 at two different places, so it is refused with the others.
    return goes(family, word, ((one, one), (one, other), (other, other)))


def are_joins(family, triples, thing):
    """Tell whether any value is a word for each two triples, one behind the other, that joins their links."""
    gaps = [(triple[1], later[0]) for triple, later in zip(triples, triples[1:])]
    if not isinstance(thing, tuple) or len(thing) != len(gaps):
        return False
    return all([goes(family, word, (gap,)) for word, gap in zip(thing, gaps)])


def goes(family, thing, cells):
    """Tell whether any value is a word whose product has entries above 0 at some cells."""
    if not is_word(family, thing):
        return False
    result = product(family, thing)
    return all([result[row][place] > 0 for row, place in cells])


def no_higher(one, other):
    """Tell whether a kind is at most another one."""
    for thing in (one, other):
        if not is_kind(thing):
            raise BadKind(thing)
    return rank(one) <= rank(other)


def is_kind(thing):
    """Tell whether any value is a kind."""
    if not begins_with_text(thing):
        return False
    if thing[0] == "power":
        return len(thing) == 2 and is_integer(thing[1]) and thing[1] >= 0
    return len(thing) == 1 and thing[0] in ORDER


def rank(told):
    """Give what orders a kind among the kinds."""
    return (ORDER.index(told[0]), told[1:])
