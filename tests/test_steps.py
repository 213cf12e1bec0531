import itertools
import unittest

from cleanedtables.steps import done

ROW = {"a": "x y", "b": None, "c": "z", "n": 5, "m": None}


class Steps(unittest.TestCase):

    def told(self, step, worths, written, marks=False):
        """Check what is told, and that what is handed in stays as it is."""
        kept = dict(worths)
        told = done(("w", *step), worths)
        self.assertEqual(told, (written, marks))
        self.assertIs(type(told), tuple)
        self.assertIs(type(told[0]), dict)
        self.assertIs(told[1], marks)
        self.assertEqual(worths, kept)
        self.assertEqual(list(worths), list(kept))

    def test_cut(self):
        step = ("cut", "a", ",", ("p", "q"))
        self.told(step, {"a": "x,y"}, {"p": "x", "q": "y"})
        self.told(step, {"a": "  x y , z"}, {"p": "x y", "q": "z"})
        self.told(step, {"a": "x,"}, {"p": "x", "q": None})
        self.told(step, {"a": ", "}, {"p": None, "q": None})
        self.told(step, {"a": None}, {"p": None, "q": None})
        for text in ["x", "x,y,z", ",,", "x y"]:
            self.told(step, {"a": text}, {"p": None, "q": None}, True)
        four = ("cut", "a", " ", ("p", "q", "r", "s"))
        self.told(four, {"a": "w x y z"}, {"p": "w", "q": "x", "r": "y", "s": "z"})
        self.told(four, {"a": "w  x y"}, {"p": "w", "q": None, "r": "x", "s": "y"})
        self.told(four, {"a": "w x y"}, dict.fromkeys("pqrs"), True)

    def test_glue(self):
        step = ("glue", ("a", "b", "c"), "-", "p")
        self.told(step, {"a": "x", "b": "y", "c": "z"}, {"p": "x-y-z"})
        self.told(step, {"a": "x", "b": None, "c": "z"}, {"p": "x-z"})
        self.told(step, {"a": None, "b": "y", "c": None}, {"p": "y"})
        self.told(step, {"a": None, "b": None, "c": None}, {"p": None})
        self.told(("glue", ("a", "a"), " ", "p"), {"a": "x"}, {"p": "x x"})
        self.told(("glue", ("c", "a"), ",", "p"), {"a": "-", "c": "b"}, {"p": "b,-"})

    def test_spell(self):
        step = ("spell", "a", (("X", "x"), ("x", "y"), ("z", None)))
        for text, spelled in [("X", "x"), ("x", "y"), ("y", "y"), ("z", None), ("Z", "Z"), (None, None)]:
            self.told(step, {"a": text, "c": "X"}, {"a": spelled})
        self.told(("spell", "a", ()), {"a": "x"}, {"a": "x"})

    def test_read(self):
        step = ("read", "a", ("amount", 2), "p")
        self.told(step, {"a": "1.5"}, {"p": 150})
        self.told(step, {"a": "-0"}, {"p": 0})
        self.told(step, {"a": None}, {"p": None})
        for text in ["x", "1.555", "1,5", "."]:
            self.told(step, {"a": text}, {"p": None}, True)
        self.told(("read", "a", ("day", "ymd"), "p"), {"a": "1-1-1"}, {"p": None}, True)
        self.told(("read", "a", ("day", "ymd"), "p"), {"a": "0001-1-1"}, {"p": 0})
        self.told(("read", "c", ("whole",), "a"), {"c": "7"}, {"a": 7})

    def test_put(self):
        self.told(("put", "a", "x"), {"a": None}, {"a": "x"})
        self.told(("put", "a", "x"), {"a": "y"}, {"a": "y"})
        self.told(("put", "n", 7), {"n": None}, {"n": 7})
        self.told(("put", "n", 7), {"n": 0}, {"n": 0})
        self.told(("put", "n", 0), {"n": None}, {"n": 0})

    def test_given(self):
        for worth, marks in [("x", False), (0, False), (None, True), (-1, False)]:
            self.told(("given", "a"), {"a": worth, "b": None}, {}, marks)

    def test_within(self):
        for worth, marks in [(2, True), (3, False), (4, False), (7, False), (8, True), (None, False), (-5, True)]:
            self.told(("within", "n", 3, 7), {"n": worth}, {}, marks)
        for worth, marks in [(2, True), (3, False), (4, True)]:
            self.told(("within", "n", 3, 3), {"n": worth}, {}, marks)
        for worth, marks in [("B", True), ("b", False), ("b c", False), ("d", False), ("da", True), (None, False)]:
            self.told(("within", "a", "b", "d"), {"a": worth}, {}, marks)
        self.told(("within", "n", -1, 1), {"n": 0}, {})
        self.told(("within", "n", 1, 2), {"n": 0}, {}, True)

    def test_among(self):
        for worth, marks in [("b", False), ("d", False), ("c", True), ("B", True), (None, False)]:
            self.told(("among", "a", ("b", "d")), {"a": worth}, {}, marks)
        for worth, marks in [(0, False), (2, False), (1, True), (None, False)]:
            self.told(("among", "n", (0, 2)), {"n": worth}, {}, marks)

    def test_before(self):
        worths = [None, -1, 0, 1, 10, 9]
        for one, other in itertools.product(worths, worths):
            marks = one is not None and other is not None and one >= other
            self.told(("before", "m", "n"), {"m": one, "n": other}, {}, marks)
        for one, other, marks in [("10", "9", False), ("9", "10", True), ("b", "b", True), (None, "a", False),
                                  ("a", None, False), (None, None, False), ("Z", "a", False)]:
            self.told(("before", "a", "b"), {"a": one, "b": other}, {}, marks)

    def test_other_columns_are_left_alone(self):
        self.told(("cut", "a", " ", ("p", "q")), ROW, {"p": "x", "q": "y"})
        self.told(("put", "b", "w"), ROW, {"b": "w"})
        self.told(("given", "m"), ROW, {}, True)
        self.told(("glue", ("a", "c"), "/", "p"), ROW, {"p": "x y/z"})

    def test_by_names(self):
        self.assertEqual(done(step=("w", "put", "a", "x"), worths={"a": None}), ({"a": "x"}, False))
        self.assertEqual(done(worths={"a": None}, step=("w", "given", "a")), ({}, True))


if __name__ == "__main__":
    unittest.main()
