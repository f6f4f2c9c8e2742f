"""Shortest words by which walks go from places to places.

A walk takes a step for each number of a word. An entry of the word's product is above 0 exactly if a walk over
entries above 0 goes there, and it is 2 or more exactly if two unlike walks do, or one that takes an entry of 2 or
more. So what a product shows at several entries can be seen from walks that go at the same time by the same word.
Nothing here depends on how many places there are.
"""


def all_steps(tables):
    """List the pairs of places such that there is a step from the first to the second one."""
    places = range(len(tables[0]))
    return [(i, j) for i in places for j in places if any([table[i][j] > 0 for table in tables])]


def steps(table, spots):
    """List where walks that stand on some spots can stand after a step by one table each."""
    ends = [()]
    for spot in spots:
        ends = [end + (place,) for end in ends for place, entry in enumerate(table[spot]) if entry > 0]
    return ends


def partings(row):
    """List the pairs of spots on which a walk that steps by a row can stand as two from there on."""
    goals = [place for place, entry in enumerate(row) if entry > 0]
    return [(one, other) for one in goals for other in goals if one != other or row[one] > 1]


def parting_steps(table, spots):
    """List where walks can stand after a step, where a single walk may also go on as two unlike ones."""
    ends = steps(table, spots)
    if len(spots) == 1:
        ends = ends + partings(table[spots[0]])
    return ends


def shortest_words(tables, start, stepping, goal=None):
    """Map all spots to which walks go from some spots, at least until a goal is reached, to shortest words for it.

    Stepping lists the next spots of walks. Of several shortest words each one is the first, as tuples are ordered.
    """
    words = {start: ()}
    layer = [start]
    while layer and goal not in words:
        later = []
        for spots in layer:
            for number, table in enumerate(tables):
                for end in stepping(table, spots):
                    if end not in words:
                        words[end] = words[spots] + (number,)
                        later.append(end)
        layer = later
    return words


def shortest_word(tables, start, goal, stepping):
    """Find the first shortest word by which walks go from some spots to others, or None."""
    return shortest_words(tables, start, stepping, goal).get(goal)


def joining_word(tables, one, other):
    """Find a shortest word, perhaps (), whose product has an entry above 0 at (one, other), or None."""
    return shortest_word(tables, (one,), (other,), steps)


def linking_word(tables, one, other):
    """Find a shortest word that shows that (one, other) is a link, or None."""
    # From a place to itself there would be (), but only two different places are a link.
    if one == other:
        return None
    return shortest_word(tables, (one, one, other), (one, other, other), steps)


def doubling_word(tables, place):
    """Find a shortest word whose product has 2 or more at (place, place), or None."""
    return shortest_word(tables, (place,), (place, place), parting_steps)


def linking_words(tables):
    """Map each link to a shortest word that shows it, the links in ascending order."""
    places = range(len(tables[0]))
    words = {(one, other): linking_word(tables, one, other) for one in places for other in places}
    return {link: word for link, word in words.items() if word is not None}
