"""What any value may be besides an integer: a tuple that begins with a text, or an ascending one of some things."""

from growthkinds.families import is_below


def begins_with_text(thing):
    """Tell whether any value is a tuple with a string first."""
    # Only of a string it is sure that being equal to a word means to be that word.
    return isinstance(thing, tuple) and len(thing) > 0 and isinstance(thing[0], str)


def is_ascending(things):
    """Tell whether each of some things in a tuple is greater than the one ahead of it."""
    return all([one < other for one, other in zip(things, things[1:])])


def is_ascending_below(thing, limit):
    """Tell whether any value is an ascending tuple, perhaps (), of integers from 0 to limit - 1."""
    if not isinstance(thing, tuple) or not all([is_below(one, limit) for one in thing]):
        return False
    return is_ascending(thing)


def is_spot(thing, limits):
    """Tell whether any value is a tuple of an integer from 0 to limit - 1 for each limit."""
    if not isinstance(thing, tuple) or len(thing) != len(limits):
        return False
    return all([is_below(one, limit) for one, limit in zip(thing, limits)])


def are_ascending_spots(thing, limits):
    """Tell whether any value is an ascending tuple, perhaps (), of spots for the limits."""
    if not isinstance(thing, tuple) or not all([is_spot(one, limits) for one in thing]):
        return False
    return is_ascending(thing)
