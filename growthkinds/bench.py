"""A bench: a family that is led deed by deed, with undo and with trials."""

from growthkinds.errors import BadNumber
from growthkinds.families import is_integer
from growthkinds.growth import kind_of
from growthkinds.webs import web_of

# Where in what a bench holds its earlier families stand, one for each deed, and where its family stands.
EARLIER = 0
NOW = 1


class Trial:
    """What a with statement is over, at whose end a bench gets back what it held when the block began."""

    def __init__(self, bench, held):
        self.bench = bench
        self._held = held
        self._earlier = []
        self._now = None

    def __enter__(self):
        # The list of earlier families is copied, since deeds in the block are taken back from it, too.
        self._earlier = list(self._held[EARLIER])
        self._now = self._held[NOW]
        return self.bench

    def __exit__(self, kind, value, trace):
        self._held.clear()
        self._held.append(self._earlier)
        self._held.append(self._now)


class Bench:
    """A family that deeds change, each of which can be taken back."""

    def __init__(self, family):
        # The trials of a bench hold this list, too, so that it always stays the same one.
        self._held = [[], family]

    @property
    def family(self):
        """Give the family now."""
        return self._held[NOW]

    def __len__(self):
        return len(self._held[EARLIER])

    def __eq__(self, other):
        return isinstance(other, Bench) and self.family == other.family

    def kind(self):
        """Give the kind now."""
        return kind_of(web_of(self.family.tables))

    def table(self, table):
        """Add a further table."""
        self._lead_to(self.family.with_table(table))

    def drop(self, number):
        """Take away a table."""
        self._lead_to(self.family.without_table(number))

    def entry(self, number, row, place, entry):
        """Put another entry into a table, perhaps the same one."""
        self._lead_to(self.family.changed(number, row, place, entry))

    def undo(self, many=1):
        """Take back the last deeds."""
        earlier = self._held[EARLIER]
        if not is_integer(many) or not 1 <= many <= len(earlier):
            raise BadNumber(many)
        self._held[NOW] = earlier[-many]
        del earlier[-many:]

    def trial(self):
        """Give what a with statement takes, at whose end the bench is what it was when the block began."""
        return Trial(self, self._held)

    def _lead_to(self, family):
        """Do a deed by which the bench gets another family."""
        self._held[EARLIER].append(self.family)
        self._held[NOW] = family


def tried(bench, function):
    """Call a function with a bench in a trial, and give what it returns."""
    with bench.trial() as same:
        return function(same)
