"""Names: of sources, tables, steps and columns."""

LONGEST = 8


def is_name(thing):
    """Tell whether a thing, of any kind, is a NAME: 1 to 8 letters a to z."""
    if not isinstance(thing, str) or len(thing) > LONGEST:
        return False
    return thing.isascii() and thing.isalpha() and thing.islower()


def are_names(thing, least, most):
    """Tell whether a thing, of any kind, is a tuple of least to most NAMEs."""
    if not isinstance(thing, tuple) or not least <= len(thing) <= most:
        return False
    return all([is_name(name) for name in thing])


def are_unlike_names(thing, least, most):
    """Tell whether a thing, of any kind, is a tuple of least to most unlike NAMEs."""
    # The names are looked at first: what is no name may be of no use to a set.
    return are_names(thing, least, most) and are_unlike(thing)


def are_unlike(texts):
    """Tell whether no two of these texts are alike."""
    return len(set(texts)) == len(texts)
