"""How the products of a web grow: whether they double, and which links stand behind one another."""

from growthkinds.webs import MOST_IN_WEB, joined, places_in


def round_place(web):
    """Find a place that leads to itself, one that has a step to itself if there is any, or None."""
    loops = [place for place, row in enumerate(web.steps) if row >> place & 1]
    rounds = [places_in(knot)[0] for knot in list(web.knots.values())]
    return (loops + rounds)[0] if rounds else None


def pairs_between(one, other):
    """List the pairs of different places of two masks, the lesser place first."""
    return [(min(i, j), max(i, j)) for i in places_in(one) for j in places_in(other) if i != j]


def partings(web, knot):
    """List the pairs of places of a knot to which a table has steps from one and the same place of it."""
    found = []
    for rows in web.tables:
        for place in places_in(knot):
            goals = rows[place] & knot
            found += pairs_between(goals, goals)
    return found


def part_and_meet(web, knot):
    """Tell whether two walks by one and the same word can part in a knot, and meet again without leaving it."""
    waiting = partings(web, knot)
    found = {pair: True for pair in waiting}
    while waiting:
        one, other = waiting.pop()
        for rows in web.tables:
            if rows[one] & rows[other] & knot:
                return True
            for pair in pairs_between(rows[one] & knot, rows[other] & knot):
                if pair not in found:
                    found[pair] = True
                    waiting.append(pair)
    return False


def doubles(web, knot):
    """Tell whether some product has 2 or more at (i, i) for the places i of a knot."""
    places = places_in(knot)
    # A step of 2 or more that stays in the knot is enough. Otherwise two unlike walks are wanted, and two places.
    if any([web.steps[place] >> MOST_IN_WEB & knot for place in places]):
        return True
    return len(places) > 1 and part_and_meet(web, knot)


def doubling_place(web):
    """Find the least place i of which some product has 2 or more at (i, i), or None."""
    for knot in list(web.knots.values()):
        if doubles(web, knot):
            return places_in(knot)[0]
    return None


def is_link(web, one, other):
    """Tell whether two different places, both of which lead to themselves, are a link."""
    start, end = web.knot_at(one), web.knot_at(other)
    # For two places to which walks from one and from other go by the same word, and from which they can come back, the
    # mask of all places to which one more walk from one goes by such a word.
    middles = {(one, other): 1 << one}
    waiting = [(one, other)]
    while waiting:
        first, last = waiting.pop()
        middle = places_in(middles[first, last])
        for rows in web.tables:
            goals, ends = rows[first] & start, rows[last] & end
            if goals and ends:
                reached = joined(rows, middle)
                for spot in [(i, j) for i in places_in(goals) for j in places_in(ends)]:
                    known = middles.get(spot, 0)
                    if reached | known != known:
                        middles[spot] = reached | known
                        waiting.append(spot)
        if middles[one, other] >> other & 1:
            return True
    return False


def links_between(web, start, end):
    """List the links from places of a knot to places of the same knot, or of one to which it leads."""
    # Where a link's second place leads back to its first one, some product doubles.
    if start == end and not doubles(web, start):
        return []
    return [(one, other) for one in places_in(start) for other in places_in(end)
            if one != other and is_link(web, one, other)]


def all_links(web):
    """List all links in ascending order."""
    found = []
    for mask, start in web.knots.items():
        for end in list(web.knots.values()):
            if mask & end:
                found += links_between(web, start, end)
    return sorted(found)


def link_between(web, start, end):
    """Find a link from a place of a knot to one of another knot, to which it leads, or None."""
    for one in places_in(start):
        for other in places_in(end):
            if is_link(web, one, other):
                return (one, other)
    return None


def longest_first(item):
    """Give what puts masks with longer chains ahead."""
    return -len(item[1])


def chain_to(web, knot, chains):
    """Find a chain to a knot, of as many links as there are, from those to the knots ahead of it."""
    longest = ()
    for mask, chain in sorted([(mask, chains[mask]) for mask in chains if mask & knot], key=longest_first):
        if len(chain) < len(longest):
            break
        link = link_between(web, web.knots[mask], knot)
        if link is not None:
            return chain + (link,)
        longest = chain
    return longest


def longest_chain(web, enough=None):
    """Find a chain of as many links as there are, or of enough links, where nothing grows by a factor."""
    chains = {}
    longest = ()
    # What leads to a knot has more places onward than it, so that the greater masks come first.
    for mask in sorted(web.knots, reverse=True):
        chain = chain_to(web, web.knots[mask], chains)
        chains[mask] = chain
        if len(chain) > len(longest):
            longest = chain
        if len(longest) == enough:
            break
    return longest


def kind_of(web):
    """Find the kind of a web."""
    if not web.knots:
        return ("nil",)
    if doubling_place(web) is not None:
        return ("factor",)
    return ("power", len(longest_chain(web)))
