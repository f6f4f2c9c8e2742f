"""Families: one to three square tables of small whole numbers, all of the same number of places."""

from growthkinds.errors import BadNumber, BadTables

MOST_TABLES = 3
MOST_PLACES = 4
MOST_ENTRY = 9


def is_integer(thing):
    """Tell whether any value is an integer."""
    # True and False are ints to Python, but no integers here.
    return isinstance(thing, int) and not isinstance(thing, bool)


def is_below(thing, limit):
    """Tell whether any value is an integer from 0 to limit - 1."""
    return is_integer(thing) and 0 <= thing < limit


def is_row(thing, many):
    """Tell whether any value is a row of a table of so many places."""
    if not isinstance(thing, tuple) or len(thing) != many:
        return False
    return all([is_below(entry, MOST_ENTRY + 1) for entry in thing])


def is_table(thing):
    """Tell whether any value is a table."""
    if not isinstance(thing, tuple) or not 1 <= len(thing) <= MOST_PLACES:
        return False
    return all([is_row(row, len(thing)) for row in thing])


def replaced(items, at, item):
    """Make a tuple with another item at one number."""
    return items[:at] + (item,) + items[at + 1:]


class Family:
    """A tuple of tables, which never changes; what changes it gives a new one."""

    def __init__(self, tables):
        if not isinstance(tables, (list, tuple)) or not 1 <= len(tables) <= MOST_TABLES:
            raise BadTables(None)
        for number, table in enumerate(tables):
            if not is_table(table) or len(table) != len(tables[0]):
                raise BadTables(number)
        self.tables = tuple(tables)
        self.many = len(tables[0])

    def __len__(self):
        return len(self.tables)

    def __eq__(self, other):
        return isinstance(other, Family) and self.tables == other.tables

    def with_table(self, table):
        """Give the family with a further table at its end."""
        # A wrong table counts ahead of a full family.
        if not is_table(table) or len(table) != self.many:
            raise BadTables(len(self.tables))
        if len(self.tables) == MOST_TABLES:
            raise BadTables(None)
        return Family(self.tables + (table,))

    def without_table(self, number):
        """Give the family without a table, which may not be the only one."""
        if len(self.tables) == 1 or not is_below(number, len(self.tables)):
            raise BadNumber(number)
        return Family(self.tables[:number] + self.tables[number + 1:])

    def changed(self, number, row, place, entry):
        """Give the family with another entry in a table."""
        limits = ((number, len(self.tables)), (row, self.many), (place, self.many), (entry, MOST_ENTRY + 1))
        for value, limit in limits:
            if not is_below(value, limit):
                raise BadNumber(value)
        table = self.tables[number]
        table = replaced(table, row, replaced(table[row], place, entry))
        return Family(replaced(self.tables, number, table))
