"""Families and words as texts."""

from growthkinds.errors import BadText, BadWord
from growthkinds.families import MOST_PLACES, MOST_TABLES, Family
from growthkinds.products import is_word

FIGURES = "0123456789"
LETTERS = "abc"
NO_LETTER = "-"


def family_text(family):
    """Write a family, with a line for each row, and an empty line between two tables."""
    return "\n\n".join([table_text(table) for table in family.tables])


def table_text(table):
    """Write a table, with a line of figures for each row."""
    return "\n".join(["".join([FIGURES[entry] for entry in row]) for row in table])


def read_family(text):
    """Read a family from its text."""
    if not isinstance(text, str):
        raise BadText(None)
    lines = text.split("\n")
    # The first line tells how many places there are.
    many = len(lines[0])
    if not 1 <= many <= MOST_PLACES:
        raise BadText(1)
    for at, line in enumerate(lines):
        if not can_stand(line, at, many):
            raise BadText(at + 1)
    if not ends_a_table(len(lines), many):
        raise BadText(len(lines) + 1)
    rows = [tuple([FIGURES.index(figure) for figure in line]) for line in lines if line != ""]
    return Family([tuple(rows[first:first + many]) for first in range(0, len(rows), many)])


def can_stand(line, at, many):
    """Tell whether a line can stand behind so many others in the text of a family of so many places."""
    if ends_a_table(at, many):
        return line == "" and at < MOST_TABLES * (many + 1) - 1
    return len(line) == many and all([sign in FIGURES for sign in line])


def ends_a_table(count, many):
    """Tell whether so many lines, with an empty one behind each table, end with the last row of a table."""
    return (count + 1) % (many + 1) == 0


def word_text(family, word):
    """Write a word, with a letter for each number."""
    if not is_word(family, word):
        raise BadWord(word)
    return "".join([LETTERS[number] for number in word]) or NO_LETTER
