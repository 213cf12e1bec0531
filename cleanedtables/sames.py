"""Sames: whether a thing of any kind is what was told, things told apart by kind."""

from cleanedtables.worths import is_whole


def is_same(told, thing):
    """Tell whether a thing, of any kind, is what was told: tuples, texts, whole numbers and None."""
    if isinstance(told, tuple):
        if not isinstance(thing, tuple) or len(told) != len(thing):
            return False
        return all([is_same(one, other) for one, other in zip(told, thing)])
    if isinstance(told, str):
        return isinstance(thing, str) and told == thing
    if told is None:
        return thing is None
    return is_whole(thing) and told == thing


def is_one_same(told, thing):
    """Tell whether a thing, of any kind, is one of several."""
    return any([is_same(one, thing) for one in told])
