"""Worths: None, texts and whole numbers."""


def is_whole(thing):
    """Tell whether a thing is a whole number."""
    return isinstance(thing, int) and not isinstance(thing, bool)


def is_worth(thing):
    """Tell whether a thing, of any kind, is a worth."""
    if isinstance(thing, str):
        return thing != "" and thing == thing.strip(" ") and "\n" not in thing
    return thing is None or is_whole(thing)


def is_told(thing):
    """Tell whether a thing, of any kind, is a worth and not None."""
    return thing is not None and is_worth(thing)


def kind_of(worth):
    """Tell the kind of a worth that is not None."""
    return "text" if isinstance(worth, str) else "number"


def rank(worth):
    """Tell what the worths of one column are sorted by: None ahead of all."""
    if worth is None:
        return (0, 0)
    return (1, worth)
