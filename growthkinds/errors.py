"""The exceptions of the package, each with the field that it keeps."""


class GrowthError(ValueError):
    """Any argument that is refused."""


class BadTables(GrowthError):
    """A family or a table that is refused; place is the number of the table, or None for all of them."""

    def __init__(self, place):
        self.place = place


class BadWord(GrowthError):
    """A value that is no word of the family."""

    def __init__(self, value):
        self.value = value


class BadNumber(GrowthError):
    """A value that is not the number that is wanted, as of a table, of a place or of an entry."""

    def __init__(self, value):
        self.value = value


class BadKind(GrowthError):
    """A value that is no kind."""

    def __init__(self, value):
        self.value = value


class BadPairs(GrowthError):
    """A value that is no pairs of the family."""

    def __init__(self, value):
        self.value = value


class BadPaper(GrowthError):
    """A value that is no paper, or one that does not hold; place tells what of it is wrong."""

    def __init__(self, place):
        self.place = place


class BadText(GrowthError):
    """A text that is refused; line is the number of its first wrong line, or None for no text at all."""

    def __init__(self, line):
        self.line = line


class Grows(LookupError):
    """There are infinitely many products; paper is a paper on the kind."""

    def __init__(self, paper):
        self.paper = paper


class TooMany(OverflowError):
    """There are more of what is asked for than the number most."""

    def __init__(self, most):
        self.most = most
