"""Shortest words by which walks go from places to places.

A walk takes a step for each number of a word. An entry of the word's product is above 0 exactly if a walk over
entries above 0 goes there, and it is 2 or more exactly if two unlike walks do, or one that takes an entry of 2 or
more. So what a product shows at several entries can be seen from walks that go at the same time by the same word.
"""

from growthkinds.webs import MOST_IN_WEB, places_in


def shortest_words(tables, start, stepping, goal=None):
    """Map all spots to which walks go from some spots, at least until a goal is reached, to shortest words for it.

    Stepping lists the next spots of walks by one of the tables, or by what stands for it. If it never lists several,
    each word is the first of the shortest ones, as tuples are ordered.
    """
    words = {start: ()}
    layer = [start]
    while layer and goal not in words:
        later = []
        for spots in layer:
            word = words[spots]
            for number, table in enumerate(tables):
                for end in stepping(table, spots):
                    if end not in words:
                        words[end] = word + (number,)
                        later.append(end)
        layer = later
    return words


def shortest_word(tables, start, goal, stepping):
    """Find a shortest word by which walks go from some spots to others, or None."""
    return shortest_words(tables, start, stepping, goal).get(goal)


def next_places(table, place):
    """List where a walk can stand after a step by a table."""
    return [goal for goal, entry in enumerate(table[place]) if entry > 0]


def joining_word(tables, one, other):
    """Find a shortest word, perhaps (), whose product has an entry above 0 at (one, other), or None."""
    return shortest_word(tables, one, other, next_places)


def goals_within(web, bound):
    """List for each table and each place the places of a bound to which the table has a step from it."""
    return [[places_in(row & bound) for row in rows] for rows in web.tables]


def doubled_within(web, bound):
    """List for each table and each place the places of a bound to which the table has a step of 2 or more from it."""
    return [[places_in(row >> MOST_IN_WEB & bound) for row in rows] for rows in web.tables]


def round_word(web, place):
    """Find a shortest word, not (), whose product has an entry above 0 at (place, place), or None."""
    goals = goals_within(web, web.knot_at(place))
    # Ahead of its first step the walk is at None, so that it is not at its goal yet.
    return shortest_word(goals, None, place, lambda lists, spot: lists[place if spot is None else spot])


def next_triples(lists, spots):
    """List where three walks can stand after a step, each by its own goals."""
    first, middle, last = lists
    return [(i, j, k) for i in first[spots[0]] for j in middle[spots[1]] for k in last[spots[2]]]


def between(web, one, other):
    """Give the mask of the places over which walks go from a place to another one, which leads to itself."""
    return sum([1 << place for place in places_in(web.onward[one]) if web.leads(place, other)])


def linking_word(web, one, other):
    """Find a shortest word that shows that (one, other) is a link, or None."""
    # From a place to itself there would be (), but only two different places are a link.
    if one == other or not web.leads(one, other):
        return None
    # A walk that comes back to a place goes but over those that lead to it, and to which it leads.
    firsts = goals_within(web, web.knot_at(one))
    middles = goals_within(web, between(web, one, other))
    lasts = goals_within(web, web.knot_at(other))
    return shortest_word(list(zip(firsts, middles, lasts)), (one, one, other), (one, other, other), next_triples)


def next_pairs(lists, spots):
    """List where a walk that has not parted yet, or the two that it has become, can stand after a step."""
    goals, doubled = lists
    if len(spots) == 2:
        return [(i, j) for i in goals[spots[0]] for j in goals[spots[1]]]
    ends = goals[spots[0]]
    parted = [(i, j) for i in ends for j in ends if i < j] + [(i, i) for i in doubled[spots[0]]]
    return [(i,) for i in ends] + parted


def doubling_word(web, place):
    """Find a shortest word whose product has 2 or more at (place, place), or None."""
    bound = web.knot_at(place)
    if bound == 0:
        return None
    lists = list(zip(goals_within(web, bound), doubled_within(web, bound)))
    return shortest_word(lists, (place,), (place, place), next_pairs)
