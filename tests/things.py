"""Things of any kind, for tests of what the document says "of anything"."""

from cleanedtables.errors import NoRow


class Stubborn:
    """A thing that is like nothing and everything: whoever asks it is refused."""

    __hash__ = None

    def __eq__(self, other):
        raise AssertionError("asked whether it is like another")

    def __len__(self):
        raise AssertionError("asked how long it is")

    def __bool__(self):
        raise AssertionError("asked whether it is so")


class Agreeing:
    """A thing that says of all that it is like it."""

    __hash__ = None

    def __eq__(self, other):
        return True


def nested(thing, deep):
    """A thing in so many tuples."""
    for _ in range(deep):
        thing = (thing,)
    return thing


def nested_list(deep):
    """An empty list in so many lists."""
    thing = []
    for _ in range(deep):
        thing = [thing]
    return thing


# No name, no worth, no number of a row, no form and no shape, by their kind alone.
ODD_KINDS = [
    True, False, [], ["a"], [1], [None], (), (None,), (True,), (1,), ("a",), ((),), ([],), ({},),
    {}, {"a": 1}, {1: "a"}, set(), {1, 2}, frozenset(), frozenset(["a"]), b"", b"a", b"whole",
    bytearray(b"a"), range(3), len, print, int, str, object, object(), Stubborn(), Agreeing(),
    lambda: 1, 1j, ValueError("a"), NoRow(1), NotImplemented, Ellipsis,
    nested(None, 19), nested("a", 19), nested([], 19), nested(Stubborn(), 19), nested_list(19),
    (Stubborn(),), (Agreeing(),), (Agreeing(), Agreeing()), (Agreeing(), 1, Agreeing()),
    [("whole",)], (("whole",),), ["whole"], ["day", "ymd"], ("a", ["b"], {"c": ("d",)}),
]
