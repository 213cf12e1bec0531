"""Names: of sources, tables, steps and columns."""

LONGEST = 8


def is_name(thing):
    """Tell whether a thing, of any kind, is a NAME: 1 to 8 letters a to z."""
    if not isinstance(thing, str) or len(thing) > LONGEST:
        return False
    return thing.isascii() and thing.isalpha() and thing.islower()


def are_names(thing, most):
    """Tell whether a thing, of any kind, is a tuple of 1 to most unlike NAMEs."""
    if not isinstance(thing, tuple) or not 1 <= len(thing) <= most:
        return False
    # The names are looked at first: what is no name may be of no use to a set.
    return all([is_name(name) for name in thing]) and len(set(thing)) == len(thing)
