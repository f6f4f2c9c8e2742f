"""Papers on the kind of tables."""

from growthkinds.growth import doubling_place, longest_chain
from growthkinds.walks import doubling_word, joining_word, linking_word
from growthkinds.webs import heights_of, web_of


def power_paper(tables, web):
    """Make the paper of tables with their web, which is not nil, and does not grow by a factor."""
    chain = longest_chain(web)
    triples = tuple([(one, other, linking_word(web, one, other)) for one, other in chain])
    joins = tuple([joining_word(tables, link[1], later[0]) for link, later in zip(chain, chain[1:])])
    return ("power", len(chain), triples, joins)


def paper_of(tables):
    """Make a paper on the kind of tables."""
    web = web_of(tables)
    if not web.knots:
        return ("nil", heights_of(web))
    place = doubling_place(web)
    if place is not None:
        return ("factor", place, doubling_word(web, place))
    return power_paper(tables, web)
