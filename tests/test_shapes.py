import unittest

from cleanedtables.shapes import is_shape
from tests.things import ODD_KINDS, Agreeing, Stubborn

SIX = ("a", "b", "c", "d", "e", "f")


class Shapes(unittest.TestCase):

    def yes(self, *things):
        for thing in things:
            self.assertIs(is_shape(thing), True, thing)

    def no(self, *things):
        for thing in things:
            self.assertIs(is_shape(thing), False)

    def test_signs(self):
        for sign in ",;|:":
            for quote in "\"'":
                self.yes(("signs", sign, quote, ("a",)), ("signs", sign, quote, SIX))

    def test_no_signs(self):
        for sign in ["", ",;", ".", " ", "=", "\n", '"', "a", None, 1, True, (",",), [","], b","]:
            self.no(("signs", sign, '"', ("a",)))
        for quote in ["", "\"'", '""', "`", ",", " ", None, 1, True, ('"',), ['"'], b'"']:
            self.no(("signs", ",", quote, ("a",)))
        self.no(("signs",), ("signs", ","), ("signs", ",", '"'), ("signs", ",", ("a",)),
                ("signs", ("a",)), ("signs", ",", '"', ("a",), ("a",)), ("sign", ",", '"', ("a",)),
                ("signs", '"', ",", ("a",)), ("signs", (1,), ("a",)), ("signs", ",", '"', "a"))

    def test_places(self):
        self.yes(("places", (1,), ("a",)), ("places", (20,), ("a",)), ("places", (1, 20), ("a", "b")),
                 ("places", (5, 5, 5, 5, 5, 5), SIX))

    def test_no_places(self):
        for widths in [
                (), (1,), (1, 2, 3), (0, 1), (1, 21), (-1, 1), (1, None), (1, "1"), (1, True),
                (False, 1), [1, 2], (1, (2,)), (1, [2]), 2, None, "12", range(1, 3)]:
            self.no(("places", widths, ("a", "b")))
        self.no(("places",), ("places", (1,)), ("places", ("a",)), ("places", ("a",), (1,)),
                ("places", (1,), ("a",), ("a",)), ("places", (1,) * 7, (*SIX, "g")),
                ("places", ",", ("a",)), ("places", (1,), '"', ("a",)), ("place", (1,), ("a",)))

    def test_named(self):
        for sign in ",;|":
            self.yes(("named", sign, ("a",)), ("named", sign, SIX))

    def test_no_named(self):
        for sign in [":", "", ",;", "=", " ", "a", None, 1, True, (",",), [","]]:
            self.no(("named", sign, ("a",)))
        self.no(("named",), ("named", ","), ("named", ("a",)), ("named", ",", '"', ("a",)),
                ("names", ",", ("a",)), ("named", (1,), ("a",)))

    def test_columns(self):
        for name in ["a", "z", "abcdefgh", "zzzzzzzz"]:
            self.yes(("named", ",", (name,)), ("named", ",", ("b", name)))
        for columns in [
                (), (*SIX, "g"), ("a", "a"), ("a", "b", "a"), ("",), ("abcdefghi",), ("A",), ("aB",),
                ("a1",), ("1",), ("a b",), (" a",), ("a ",), ("a_b",), ("a-b",), ("a\n",), ("!",),
                (None,), (1,), (True,), (("a",),), (["a"],), ([],), ({},), ("a", []), ("a", None),
                (b"a",), "a", "ab", None, ["a"], ["a", "b"], {"a": 1}, {"a"}, 1, ()]:
            self.no(("signs", ",", '"', columns), ("named", ",", columns))
            self.no(("places", (1,), columns), ("places", (1, 1), columns))

    def test_lists_are_no_tuples(self):
        self.no(["signs", ",", '"', ("a",)], ["places", (1,), ("a",)], ["named", ",", ("a",)])

    def test_things_of_any_kind(self):
        self.no(None, "", "signs", "named", 0, 1, "a", ("",), ("signs",), (None, ",", ("a",)))
        for thing in ODD_KINDS:
            self.no(thing, (thing,), (thing, thing, thing), ("signs", thing), ("named", thing))
            self.no((thing, ",", ("a",)), (thing, ",", '"', ("a",)), (thing, (1,), ("a",)))
            self.no(("signs", thing, '"', ("a",)), ("signs", ",", thing, ("a",)))
            self.no(("signs", ",", '"', (thing,)), ("places", (1,), (thing,)), ("named", ",", (thing,)))
            self.no(("places", (thing,), ("a",)), ("named", thing, ("a",)))
            self.no(("signs", ",", '"', ("a", thing)), ("named", ",", (thing, thing)))
        self.no(("signs", Stubborn(), '"', ("a",)), ("named", Agreeing(), ("a",)))

    def test_by_name(self):
        self.assertIs(is_shape(thing=("named", ",", ("a",))), True)
        self.assertIs(is_shape(thing=None), False)


if __name__ == "__main__":
    unittest.main()
