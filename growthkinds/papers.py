"""Papers on the kind of tables: finding one, and so the kind.

Nothing here depends on how many places there are.
"""

from growthkinds.walks import all_steps, doubling_word, joining_word, linking_words


def heights_of(tables):
    """Give each place the greatest number of steps that can follow it, or None if there is no greatest one."""
    found = all_steps(tables)
    places = range(len(tables[0]))
    heights = [0 for _ in places]
    # Each round tells of one step more. Among n places n steps in a row pass one of them twice.
    for _ in places:
        heights = [max([heights[j] + 1 for i, j in found if i == place], default=0) for place in places]
    return tuple(heights) if max(heights) < len(places) else None


def longest_chain(tables, links):
    """Find a chain of as many links as there are; where nothing grows by a factor, none stands twice in a chain."""
    longest = ()
    chains = [(link,) for link in links]
    while chains:
        longest = chains[0]
        # One chain for each last link will do: what can follow depends on that link alone.
        further = {link: chain + (link,) for chain in chains for link in links if follows(tables, chain[-1], link)}
        chains = list(further.values())
    return longest


def follows(tables, one, other):
    """Tell whether a link may stand behind another one in a chain."""
    return joining_word(tables, one[1], other[0]) is not None


def factor_paper(tables):
    """Find a paper that the tables grow by a factor, or None."""
    for place in range(len(tables[0])):
        word = doubling_word(tables, place)
        if word is not None:
            return ("factor", place, word)
    return None


def power_paper(tables):
    """Make the paper of tables that are not nil, and do not grow by a factor."""
    words = linking_words(tables)
    chain = longest_chain(tables, list(words))
    triples = tuple([(one, other, words[(one, other)]) for one, other in chain])
    joins = tuple([joining_word(tables, link[1], later[0]) for link, later in zip(chain, chain[1:])])
    return ("power", len(chain), triples, joins)


def paper_of(tables):
    """Make a paper on the kind of the tables."""
    heights = heights_of(tables)
    if heights is not None:
        return ("nil", heights)
    return factor_paper(tables) or power_paper(tables)


def kind_of(tables):
    """Find the kind of the tables."""
    told = paper_of(tables)
    return told[:2] if told[0] == "power" else told[:1]
