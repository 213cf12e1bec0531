"""Shapes: how the rows of a source are parted into cells."""

from cleanedtables.names import are_unlike_names
from cleanedtables.worths import is_whole

SIGNS = (",", ";", "|", ":")
QUOTES = ('"', "'")
NAMED_SIGNS = (",", ";", "|")
WIDEST = 20
MOST_COLUMNS = 6


def is_shape(thing):
    """Tell whether a thing, of any kind, is a shape."""
    if not isinstance(thing, tuple) or len(thing) == 0 or not isinstance(thing[0], str):
        return False
    if not are_unlike_names(thing[-1], 1, MOST_COLUMNS):
        return False
    if thing[0] == "signs":
        return len(thing) == 4 and is_one_of(thing[1], SIGNS) and is_one_of(thing[2], QUOTES)
    if len(thing) != 3:
        return False
    if thing[0] == "places":
        return are_widths(thing[1], len(thing[2]))
    return thing[0] == "named" and is_one_of(thing[1], NAMED_SIGNS)


def is_one_of(thing, signs):
    """Tell whether a thing, of any kind, is one of these signs."""
    return isinstance(thing, str) and thing in signs


def are_widths(thing, many):
    """Tell whether a thing, of any kind, is a tuple of as many widths."""
    if not isinstance(thing, tuple) or len(thing) != many:
        return False
    return all([is_whole(width) and 1 <= width <= WIDEST for width in thing])
