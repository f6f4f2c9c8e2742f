"""A second reckoning for the tests: by all products of words, by rows of them, and by walks. It takes nothing from
the package but the words and papers that are looked at."""

from itertools import product as tuples_of


def times(one, other):
    """Multiply two tables."""
    return tuple(tuple(sum(a * b for a, b in zip(row, column)) for column in zip(*other)) for row in one)


def multiplied(tables, word):
    """Multiply the tables of a word."""
    many = len(tables[0])
    result = tuple(tuple(1 if i == j else 0 for j in range(many)) for i in range(many))
    for number in word:
        result = times(result, tables[number])
    return result


def total(table):
    """Add up the entries of a table."""
    return sum(map(sum, table))


def words_of(tables, long):
    """List all words of just so many numbers."""
    return list(tuples_of(range(len(tables)), repeat=long))


def products_of(tables, long):
    """Map all words of just so many numbers, in their order, to their products."""
    found = {(): multiplied(tables, ())}
    for _ in range(long):
        found = {word + (number,): times(result, table)
                 for word, result in found.items() for number, table in enumerate(tables)}
    return found


def sizes_of(tables, long):
    """Map all words of just so many numbers, in their order, to the sizes of their products."""
    return {word: total(result) for word, result in products_of(tables, long).items()}


def greatest(tables, long):
    """Find the greatest size of a product of a word of so many numbers."""
    return max(total(multiplied(tables, word)) for word in words_of(tables, long))


def later_places(tables):
    """For each place, the set of places to which one step or more go, by growing the sets until none grows."""
    many = len(tables[0])
    sets = [{j for table in tables for j in range(many) if table[i][j]} for i in range(many)]
    for _ in range(many):
        sets = [one.union(*[sets[j] for j in one]) for one in sets]
    return sets


def fewest(tables, starts, good):
    """The least number of numbers of a word for which good(rows) holds, or None if it holds for none.

    The rows are those of the word's product at the starts, with 2 for any entry above it. There are but finitely
    many such rows, so that all words are looked at.
    """
    many = len(tables[0])
    layer = {tuple(tuple(int(place == start) for place in range(many)) for start in starts)}
    seen = set(layer)
    long = 0
    while layer:
        if any(good(rows) for rows in layer):
            return long
        layer = {tuple(tuple(min(2, entry) for entry in row) for row in times(rows, table))
                 for rows in layer for table in tables} - seen
        seen |= layer
        long += 1
    return None


def join_length(tables, one, other):
    """How many numbers the shortest join has, or None."""
    return fewest(tables, [one], lambda rows: rows[0][other] > 0)


def link_length(tables, one, other):
    """How many numbers the shortest word has that shows a link, or None."""
    if one == other:
        return None
    return fewest(tables, [one, other], lambda rows: rows[0][one] > 0 and rows[0][other] > 0 and rows[1][other] > 0)


def double_length(tables, one):
    """How many numbers the shortest word has that doubles at a place, or None."""
    return fewest(tables, [one], lambda rows: rows[0][one] > 1)


def all_links(tables):
    """List all links in ascending order."""
    places = range(len(tables[0]))
    return [(i, j) for i in places for j in places if link_length(tables, i, j) is not None]


def longest_behind(link, links, later):
    """How many links the longest chain has that begins with a link, as long as none stands twice in one."""
    return 1 + max([longest_behind(other, links, later) for other in links
                    if other[0] == link[1] or other[0] in later[link[1]]], default=0)


def kind_of(tables):
    """The kind, by the words of the document."""
    many = len(tables[0])
    if all(total(multiplied(tables, word)) == 0 for word in words_of(tables, many)):
        return ("nil",)
    if any(double_length(tables, place) is not None for place in range(many)):
        return ("factor",)
    links = all_links(tables)
    later = later_places(tables)
    return ("power", max([longest_behind(link, links, later) for link in links], default=0))


def all_products(tables, most):
    """Find all different products, or None if there are more than so many."""
    found = {}
    waiting = [multiplied(tables, ())]
    while waiting:
        one = waiting.pop()
        found[one] = True
        if len(found) > most:
            return None
        waiting += [result for result in [times(one, table) for table in tables] if result not in found]
    return sorted(found)


def is_number(thing, limit):
    """Tell whether any value is an integer from 0 to limit - 1."""
    return type(thing) is int and thing in range(limit)


def shows(tables, thing, *cells):
    """Tell whether any value is a word whose product has at least so much at each cell (row, place, least)."""
    if type(thing) is not tuple or len(thing) > 400 or not all(is_number(number, len(tables)) for number in thing):
        return False
    table = multiplied(tables, thing)
    return all(table[row][place] >= least for row, place, least in cells)


def shows_link(tables, thing):
    """Tell whether any value is a triple (i, j, word) of a link and a word that shows it."""
    if type(thing) is not tuple or len(thing) != 3:
        return False
    one, other, word = thing
    if not (is_number(one, len(tables[0])) and is_number(other, len(tables[0]))) or one == other or word == ():
        return False
    return shows(tables, word, (one, one, 1), (one, other, 1), (other, other, 1))


def verdict(tables, thing):
    """What the document says of any value as a paper: "holds", or the word of what is wrong first."""
    if type(thing) is not tuple or not thing or type(thing[0]) is not str:
        return "form"
    word, *parts = thing
    if word == "nil" and len(parts) == 1:
        return nil_verdict(tables, *parts)
    if word == "factor" and len(parts) == 2:
        return factor_verdict(tables, *parts)
    if word == "power" and len(parts) == 3:
        return power_verdict(tables, *parts)
    return "form"


def nil_verdict(tables, heights):
    """As verdict, for the part of a paper with "nil" first."""
    many = len(tables[0])
    if type(heights) is not tuple or len(heights) != many or any(type(height) is not int for height in heights):
        return "heights"
    for table in tables:
        for i, j in tuples_of(range(many), repeat=2):
            if table[i][j] > 0 and not heights[i] > heights[j]:
                return "heights"
    return "holds"


def factor_verdict(tables, place, word):
    """As verdict, for the parts of a paper with "factor" first."""
    if not is_number(place, len(tables[0])):
        return "place"
    return "holds" if word != () and shows(tables, word, (place, place, 2)) else "word"


def power_verdict(tables, power, triples, joins):
    """As verdict, for the parts of a paper with "power" first."""
    if type(power) is not int or power < 0:
        return "number"
    if type(triples) is not tuple or len(triples) != power or not all(shows_link(tables, one) for one in triples):
        return "links"
    if type(joins) is not tuple or len(joins) != (power - 1 if power > 1 else 0):
        return "joins"
    for at, word in enumerate(joins):
        if not shows(tables, word, (triples[at][1], triples[at + 1][0], 1)):
            return "joins"
    return "holds" if kind_of(tables) == ("power", power) else "kind"
