import itertools
import unittest

from cleanedtables.programs import columns_of, look_program
from tests.samples import BILLS, FULL, Drawn
from tests.things import ODD_KINDS, Agreeing, Stubborn, nested

WHYS = ("form", "name", "column", "kind")
SHAPE = ("signs", ",", '"', ("a", "b", "c"))
SOURCES = (("s", SHAPE), ("z", ("named", ";", ("d", "e"))))
# Columns of "t": a, b, c texts, n, m numbers; of "u": d, e texts, k a number.
AHEAD = (
    ("t", ("of", "s"), (("one", "read", "c", ("whole",), "n"), ("two", "read", "b", ("whole",), "m")), ()),
    ("u", ("of", "z"), (("one", "read", "d", ("whole",), "k"),), ()),
)
SUM = (("x", "count", None),)


def program_of(origin, steps=(), behinds=()):
    """A program whose last table is of these."""
    return (SOURCES, (*AHEAD, ("v", origin, steps, behinds)))


def thawed(thing):
    """The same in lists."""
    return [thawed(part) for part in thing] if isinstance(thing, tuple) else thing


def replaced(thing, path, value):
    """A tuple with another value at a path."""
    if not path:
        return value
    parts = list(thing)
    parts[path[0]] = replaced(parts[path[0]], path[1:], value)
    return tuple(parts)


def paths(thing, path=()):
    """Each path to a part of nested tuples, with the part."""
    yield path, thing
    if isinstance(thing, tuple):
        for place, part in enumerate(thing):
            yield from paths(part, path + (place,))


class Cases(unittest.TestCase):

    def right(self, origin, steps=(), behinds=()):
        self.assertIsNone(look_program(program_of(origin, steps, behinds)), (origin, steps, behinds))

    def origin(self, why, *origin):
        told = look_program(program_of(origin))
        self.assertEqual(told, (2, -1, why), origin)

    def right_step(self, *step):
        self.right(("of", "s"), (("num", "read", "c", ("whole",), "n"), ("w", *step)))
        self.right(("join", "t", "u", (("a", "d"),)), (("w", *step),))

    def step(self, why, *step):
        told = look_program(program_of(("join", "t", "u", (("a", "d"),)), (("w", *step),)))
        self.assertEqual(told, (2, 0, why), step)


class Programs(Cases):

    def test_programs(self):
        self.assertIsNone(look_program(FULL))
        self.assertIsNone(look_program(thing=FULL))
        for seed in range(40):
            self.assertIsNone(look_program(Drawn(seed).program))

    def test_how_many(self):
        table = ("t", ("of", "s"), (), ())
        source = ("s", SHAPE)
        self.assertIsNone(look_program(((source,), (table,))))
        tables = tuple((name, *table[1:]) for name in "abcdefg")
        self.assertIsNone(look_program(((source,), tables[:6])))
        self.assertEqual(look_program(((source,), tables)), (-1, -1, "form"))
        self.assertEqual(look_program(((source,), ())), (-1, -1, "form"))
        sources = tuple((name, SHAPE) for name in ("s", "x", "y", "z"))
        self.assertIsNone(look_program((sources[:3], (table,))))
        self.assertEqual(look_program((sources, (table,))), (-1, -1, "form"))
        self.assertEqual(look_program(((), (table,))), (-1, -1, "form"))

    def test_no_pair(self):
        sources, tables = program_of(("of", "s"))
        for thing in [(), (sources,), (sources, tables, ()), [sources, tables], (list(sources), tables),
                      (sources, list(tables)), sources, tables, (tables, sources), None, 0, "", "ab"]:
            self.assertEqual(look_program(thing), (-1, -1, "form"))

    def test_sources(self):
        tables = program_of(("of", "s"))[1]
        for source in [("S", SHAPE), ("", SHAPE), ("toolongso", SHAPE), (None, SHAPE), ("q",), ("q", SHAPE, 1),
                       ("q", ()), ("q", None), ("q", ("signs", ",", '"', ())), ["q", SHAPE], None, "qs"]:
            self.assertEqual(look_program(((*SOURCES, source), tables)), (-1, -1, "form"))
            self.assertEqual(look_program(((source, *SOURCES), tables)), (-1, -1, "form"))
        self.assertEqual(look_program(((*SOURCES, ("s", SHAPE)), tables)), (-1, -1, "name"))
        self.assertEqual(look_program(((*SOURCES, ("z", SHAPE)), ())), (-1, -1, "form"))
        self.assertEqual(look_program(((*SOURCES, ("s", None)), tables)), (-1, -1, "form"))
        self.assertEqual(look_program(((*SOURCES, ("s", SHAPE)), (None,))), (-1, -1, "name"))

    def test_of_anything(self):
        for thing in ODD_KINDS:
            self.assertEqual(look_program(thing), (-1, -1, "form"))
        self.assertEqual(look_program(nested((SOURCES, AHEAD), 18)), (-1, -1, "form"))

    def test_things_of_another_kind_at_each_part(self):
        for path, part in paths(FULL):
            for thing in ODD_KINDS:
                if not isinstance(thing, tuple):
                    self.assertEqual(look_program(replaced(FULL, path, thing)), where(path), (path, part))
                elif not isinstance(part, tuple):
                    self.assertEqual(look_program(replaced(FULL, path, thing)), where(path), (path, part))

    def test_none_at_each_part(self):
        for path, part in paths(FULL):
            if part is not None and path[:3] + path[4:5] + path[6:] != (1, 1, 2, 3, 1):
                self.assertEqual(look_program(replaced(FULL, path, None)), where(path), (path, part))

    def test_tuples_of_another_kind_at_each_tuple(self):
        for path, part in paths(FULL):
            if not isinstance(part, tuple) or path == ():
                continue
            wanted = where(path)
            if path == (1,):
                wanted = (0, -1, "form")
            elif path[2:] == (2,):
                wanted = (path[1], 0, "form")
            elif path[2:] == (3,):
                wanted = (path[1], len(FULL[1][path[1]][2]), "form")
            for thing in [(None,), (True,), ((),), ([],), (b"a",), (Stubborn(),), (Agreeing(),), (nested(None, 9),)]:
                self.assertEqual(look_program(replaced(FULL, path, thing)), wanted, (path, part))

    def test_lists_for_tuples(self):
        for path, part in paths(FULL):
            if isinstance(part, tuple):
                self.assertEqual(look_program(replaced(FULL, path, list(part))), where(path), path)
        self.assertEqual(look_program(thawed(FULL)), (-1, -1, "form"))

    def test_a_part_more(self):
        for path, part in paths(FULL):
            if isinstance(part, tuple):
                wanted = where(path)
                if path[:1] == (1,) and path[2:] in ((2,), (3,)):
                    wanted = (path[1], len(FULL[1][path[1]][2]), "form")
                self.assertEqual(look_program(replaced(FULL, path, part + (None,))), wanted, path)

    def test_a_part_fewer_or_another_more(self):
        for path, part in paths(FULL):
            if isinstance(part, tuple) and not has_any_length(path):
                for thing in [part[:-1], part[1:], part + ("more",), part + (7,), (part[0], *part)]:
                    self.assertEqual(look_program(replaced(FULL, path, thing)), where(path), (path, thing))

    def test_what_is_handed_in_stays(self):
        lists = [SOURCES, list(AHEAD), [["a"]]]
        look_program((lists[0], lists[1]))
        self.assertEqual(lists, [SOURCES, list(AHEAD), [["a"]]])


def where(path):
    """Where a part of FULL is at fault by its form."""
    if path[:1] != (1,) or len(path) == 1:
        return (-1, -1, "form")
    if len(path) < 4 or path[2] < 2:
        return (path[1], -1, "form")
    return (path[1], path[3] if path[2] == 2 else len(FULL[1][path[1]][2]), "form")


def has_any_length(path):
    """Whether the tuple at a path of FULL may have parts more or fewer."""
    if path[:1] == (0,):
        return len(path) in (1, 4)
    if len(path) in (1, 3) and path[2:] != (1,):
        return True
    if path[2:3] == (1,):
        return len(path) == 4
    return len(path) == 5 and path[2:3] == (2,) and path[3:] != (2, 3) and path[3:] != (3, 3)


NO_NAMES = ("", "A", "Aa", "a b", "a1", "toolongso", "a_", " a", "a\n", "-", "\u00e9", "\u00df")


class Origins(Cases):

    def no_names(self, *origin):
        """Each text of an origin at fault by its form where it is no NAME."""
        for path, part in paths(origin):
            if path and isinstance(part, str):
                for text in NO_NAMES:
                    self.origin("form", *replaced(origin, path, text))

    def test_words(self):
        for word in ["", "off", "OF", "source", "group by", "cut"]:
            self.origin("form", word, "s")
        self.origin("form", "of")
        self.origin("form")
        self.origin("form", "join", "s")

    def test_of(self):
        self.right(("of", "s"))
        self.right(("of", "z"))
        self.no_names("of", "s")
        for name in ["q", "t", "u", "v", "of"]:
            self.origin("name", "of", name)

    def test_join(self):
        for pairs in [(("a", "d"),), (("a", "d"), ("b", "e")), (("a", "d"), ("a", "e")), (("n", "k"),),
                      (("a", "d"), ("b", "e"), ("n", "k"))]:
            self.right(("join", "t", "u", pairs))
        self.right(("join", "u", "t", (("d", "a"), ("d", "b"), ("d", "c"))))
        self.no_names("join", "t", "u", (("a", "d"), ("b", "e")))
        self.origin("form", "join", "t", "t", (("a", "b"),))
        self.origin("form", "join", "q", "q", (("a", "b"),))
        self.origin("form", "join", "t", "u", ())
        self.origin("form", "join", "t", "u", (("a", "d"), ("b", "d")))
        self.origin("form", "join", "t", "u", (("a", "d"), ("a", "d")))
        self.origin("form", "join", "t", "u", (("a", "d"), ("b", "e"), ("n", "k"), ("c", "f")))
        for one, other in [("q", "u"), ("t", "q"), ("s", "u"), ("t", "z"), ("v", "u"), ("t", "v")]:
            self.origin("name", "join", one, other, (("a", "d"),))
        for pair in [("d", "d"), ("a", "a"), ("q", "d"), ("a", "q"), ("d", "a")]:
            self.origin("column", "join", "t", "u", (pair,))
            self.origin("column", "join", "t", "u", (("n", "k"), pair))
        self.origin("kind", "join", "t", "u", (("a", "k"),))
        self.origin("kind", "join", "t", "u", (("n", "d"),))
        self.origin("kind", "join", "t", "u", (("a", "d"), ("n", "e")))

    def test_columns_of_a_join_called_alike(self):
        tables = (("t", ("of", "s"), (), ()), ("u", ("of", "s"), (), ()))

        def told(pairs):
            return look_program((SOURCES, (*tables, ("v", ("join", "t", "u", pairs), (), ()))))

        self.assertEqual(told((("a", "a"),)), (2, -1, "column"))
        self.assertEqual(told((("a", "a"), ("b", "b"))), (2, -1, "column"))
        self.assertIsNone(told((("a", "a"), ("b", "b"), ("c", "c"))))
        self.assertIsNone(told((("a", "a"), ("a", "b"), ("a", "c"))))

    def test_group(self):
        for keys in [(), ("a",), ("n", "a"), ("a", "b", "c")]:
            self.right(("group", "t", keys, SUM))
        for sums in [(("x", "total", "n"),), (("x", "least", "n"), ("y", "most", "a")),
                     (("a", "first", "a"), ("b", "first", "n"), ("c", "least", "a"), ("n", "count", None))]:
            self.right(("group", "t", (), sums))
        self.no_names("group", "t", ("a", "b"), (("x", "total", "n"), ("y", "count", None)))
        self.origin("form", "group", "t", ("a", "a"), SUM)
        self.origin("form", "group", "t", ("a", "b", "c", "n"), SUM)
        self.origin("form", "group", "t", (), ())
        self.origin("form", "group", "t", (), tuple((name, "count", None) for name in "vwxyz"))
        for word in ["sum", "COUNT", "counts", "", "group", "last"]:
            self.origin("form", "group", "t", (), (("x", word, "n"),))
            self.origin("form", "group", "t", (), (("x", word, None),))
        self.origin("form", "group", "t", (), (("x", "count", "n"),))
        for word in ["total", "least", "most", "first"]:
            self.origin("form", "group", "t", (), (("x", word, None),))
            self.origin("column", "group", "t", (), (("x", word, "q"),))
        for name in ["q", "s", "v"]:
            self.origin("name", "group", name, (), SUM)
        self.origin("column", "group", "t", ("q",), SUM)
        self.origin("column", "group", "t", ("a", "d"), SUM)
        self.origin("column", "group", "t", ("a",), (*SUM, ("a", "count", None)))
        self.origin("column", "group", "t", ("a",), (*SUM, ("x", "first", "a")))
        self.origin("kind", "group", "t", (), (("x", "total", "a"),))
        self.origin("kind", "group", "t", (), (*SUM, ("y", "total", "n"), ("z", "total", "a")))

    def test_wide(self):
        told = (("p", "x"), ("q r", "y"))
        for keys in [(), ("a",), ("a", "n", "c"), ("b", "c")]:
            self.right(("wide", "t", keys, "a", "b", told))
        self.right(("wide", "t", (), "a", "n", told))
        self.right(("wide", "t", (), "a", "n", (("p", "a"), ("q", "n"), ("P", "x"), ("-", "y"))))
        self.no_names("wide", "t", ("a", "c"), "a", "b", ((1, "x"), (2, "y")))
        for text in ["", " p", "p ", "p\nq", " ", None, 1, True, ("p",)]:
            self.origin("form", "wide", "t", (), "a", "b", ((text, "x"),))
            self.origin("form", "wide", "t", (), "a", "b", (*told, (text, "z")))
        for name in NO_NAMES:
            self.origin("form", "wide", "t", (), "a", "b", (("p", name),))
        self.origin("form", "wide", "t", (), "a", "a", told)
        self.origin("form", "wide", "t", ("c", "c"), "a", "b", told)
        self.origin("form", "wide", "t", ("a", "b", "c", "n"), "a", "b", told)
        self.origin("form", "wide", "t", (), "a", "b", ())
        self.origin("form", "wide", "t", (), "a", "b", (("p", "x"), ("p", "y")))
        self.origin("form", "wide", "t", (), "a", "b", tuple((name, name) for name in "vwxyz"))
        for name in ["q", "s", "v"]:
            self.origin("name", "wide", name, (), "a", "b", told)
        self.origin("column", "wide", "t", ("d",), "a", "b", told)
        self.origin("column", "wide", "t", (), "d", "b", told)
        self.origin("column", "wide", "t", (), "a", "d", told)
        self.origin("column", "wide", "t", ("c",), "a", "b", (("p", "c"),))
        self.origin("column", "wide", "t", (), "a", "b", (("p", "x"), ("q", "x")))
        self.origin("kind", "wide", "t", (), "n", "b", told)
        self.origin("kind", "wide", "t", ("a",), "n", "m", told)

    def test_long(self):
        for told in [("a",), ("a", "b", "c"), ("n",), ("n", "m"), ("m", "n")]:
            self.right(("long", "t", told, "x", "y"))
        self.right(("long", "t", ("a", "b", "c"), "a", "b"))
        self.no_names("long", "t", ("a", "b"), "x", "y")
        self.origin("form", "long", "t", (), "x", "y")
        self.origin("form", "long", "t", ("a", "a"), "x", "y")
        self.origin("form", "long", "t", ("a", "b", "c", "d", "e"), "x", "y")
        for name in ["q", "s", "v"]:
            self.origin("name", "long", name, ("a",), "x", "y")
        self.origin("column", "long", "t", ("d",), "x", "y")
        self.origin("column", "long", "t", ("a", "d"), "x", "y")
        self.origin("column", "long", "t", ("a",), "x", "x")
        self.origin("column", "long", "t", ("a",), "b", "y")
        self.origin("column", "long", "t", ("a",), "x", "n")
        self.origin("kind", "long", "t", ("a", "n"), "x", "y")
        self.origin("kind", "long", "t", ("n", "a", "m"), "x", "y")

    def test_names_of_tables(self):
        for name in ["s", "z", "t", "u"]:
            self.assertEqual(look_program((SOURCES, (*AHEAD, (name, ("of", "s"), (), ())))), (2, -1, "name"))
        for name in NO_NAMES:
            self.assertEqual(look_program((SOURCES, (*AHEAD, (name, ("of", "s"), (), ())))), (2, -1, "form"))
        self.assertEqual(look_program((SOURCES, (("z", ("of", "s"), (), ()),))), (0, -1, "name"))
        # A name that stands behind is none that stands ahead.
        later = (("v", ("group", "t", (), SUM), (), ()), *AHEAD)
        self.assertEqual(look_program((SOURCES, later)), (0, -1, "name"))

    def test_form_then_name_then_column_then_kind(self):
        self.origin("form", "join", "q", "u", (("a", "d"), ("q", "d")))
        self.origin("name", "join", "q", "u", (("q", "k"),))
        self.origin("column", "join", "t", "u", (("a", "k"), ("q", "d")))
        self.origin("column", "join", "t", "u", (("q", "k"), ("n", "d")))
        self.origin("column", "group", "t", ("a",), (("a", "count", None), ("x", "total", "b")))
        self.origin("column", "wide", "t", ("c",), "n", "b", (("p", "c"),))
        self.origin("column", "long", "t", ("a", "n"), "b", "y")
        self.assertEqual(look_program((SOURCES, (*AHEAD, ("s", ("of",), (), ())))), (2, -1, "form"))
        self.assertEqual(look_program((SOURCES, (*AHEAD, ("s", ("long", "t", ("q",), "x", "y"), (), ())))),
                         (2, -1, "name"))
        self.assertEqual(look_program((SOURCES, (*AHEAD, ("v", ("of", "q"), [], ())))), (2, -1, "form"))
        self.assertEqual(look_program((SOURCES, (*AHEAD, ("v", ("of", "q"), (), None)))), (2, -1, "form"))
        self.assertEqual(look_program((SOURCES, (*AHEAD, ("v", ("of", "q"), (None,), (None,))))), (2, -1, "name"))


class Steps(Cases):

    def no_names(self, *step):
        """Each text of a step at fault by its form where it is no NAME, its word and signs left out."""
        for path, part in paths(step):
            if path and path != (0,) and isinstance(part, str) and len(part) < 9 and part.isalpha():
                for text in NO_NAMES:
                    self.step("form", *replaced(step, path, text))

    def test_words(self):
        for word in ["", "cuts", "CUT", "of", "join", "step", " given"]:
            self.step("form", word, "a")
            self.step("form", word, "a", ",", ("x", "y"))
        self.step("form")
        self.step("form", "given")

    def test_names(self):
        steps = (("p", "given", "a"), ("q", "given", "a"))
        self.right(("of", "s"), steps)
        for name in ["p", "q"]:
            told = look_program(program_of(("of", "s"), (*steps, (name, "given", "a"))))
            self.assertEqual(told, (2, 2, "name"))
        for name in [*NO_NAMES, None, 1, True, ("p",), ["p"]]:
            told = look_program(program_of(("of", "s"), (*steps, (name, "given", "a"))))
            self.assertEqual(told, (2, 2, "form"))
        # Of tables, sources and columns a step may have the name.
        for name in ["s", "t", "v", "a", "given"]:
            self.right(("of", "s"), ((name, "given", "a"),))

    def test_cut(self):
        self.right_step("cut", "a", ",", ("x", "y"))
        self.right_step("cut", "b", " ", ("w", "x", "y", "z"))
        self.no_names("cut", "a", ",", ("x", "y"))
        for sign in ["", ",,", "\n", None, 1, True, (",",)]:
            self.step("form", "cut", "a", sign, ("x", "y"))
        for news in [(), ("x",), ("v", "w", "x", "y", "z"), ("x", "x"), ("x", "y", "x"), "xy"]:
            self.step("form", "cut", "a", ",", news)
        self.step("column", "cut", "q", ",", ("x", "y"))
        self.step("column", "cut", "d", ",", ("x", "y"))
        for news in [("x", "a"), ("a", "x"), ("x", "e"), ("x", "y", "k")]:
            self.step("column", "cut", "a", ",", news)
        self.step("kind", "cut", "n", ",", ("x", "y"))
        self.step("column", "cut", "n", ",", ("x", "a"))

    def test_glue(self):
        for columns in [("a",), ("a", "a"), ("a", "b", "c", "a")]:
            self.right_step("glue", columns, ",", "x")
        self.right_step("glue", ("a",), " ", "d")
        self.no_names("glue", ("a", "b"), ",", "x")
        for columns in [(), ("a", "b", "c", "a", "b"), "a"]:
            self.step("form", "glue", columns, ",", "x")
        for sign in ["", ",,", "\n", None, 1, (",",)]:
            self.step("form", "glue", ("a",), sign, "x")
        self.step("column", "glue", ("a", "q"), ",", "x")
        self.step("column", "glue", ("a",), ",", "b")
        self.step("column", "glue", ("n",), ",", "a")
        self.step("kind", "glue", ("n",), ",", "x")
        self.step("kind", "glue", ("a", "b", "n"), ",", "x")

    def test_spell(self):
        for pairs in [(), (("p", "q"),), (("p", None),), (("P", "p"), ("p", "P"), ("p q", "p q"))]:
            self.right_step("spell", "a", pairs)
        for name in NO_NAMES:
            self.step("form", "spell", name, ())
        for pairs in [(("p", "q"), ("p", "r")), (("q", "p"), ("p", "q")), (("p", "q"), ("P", "q")),
                      (("p",),), (("p", "q", "r"),), ("pq",), (None,), ("p", "q")]:
            self.step("form", "spell", "a", pairs)
        for text in ["", " p", "p ", "p\nq", 1, True, ("p",)]:
            self.step("form", "spell", "a", ((text, "q"),))
            self.step("form", "spell", "a", (("p", text),))
        self.step("form", "spell", "a", ((None, "q"),))
        self.step("column", "spell", "q", ())
        self.step("kind", "spell", "n", ())

    def test_read(self):
        for form in [("whole",), ("amount", 1), ("amount", 4), ("day", "ymd")]:
            self.right_step("read", "a", form, "x")
        for name in NO_NAMES:
            self.step("form", "read", name, ("whole",), "x")
            self.step("form", "read", "a", ("whole",), name)
        for form in [(), ("whole", 1), ("amount", 0), ("amount", 5), ("day", "dym"), "whole", None]:
            self.step("form", "read", "a", form, "x")
        self.step("column", "read", "q", ("whole",), "x")
        self.step("column", "read", "a", ("whole",), "b")
        self.step("column", "read", "a", ("whole",), "a")
        self.step("column", "read", "n", ("whole",), "a")
        self.step("kind", "read", "n", ("whole",), "x")

    def test_put(self):
        self.right_step("put", "a", "x y")
        self.right_step("put", "n", -3)
        self.right_step("put", "n", 0)
        for name in NO_NAMES:
            self.step("form", "put", name, "x")
        for worth in [None, "", " x", "x\n", True, False, ("x",), ["x"], b"x"]:
            self.step("form", "put", "a", worth)
            self.step("form", "put", "n", worth)
        self.step("column", "put", "q", "x")
        self.step("column", "put", "q", 1)
        self.step("kind", "put", "a", 1)
        self.step("kind", "put", "n", "x")

    def test_given(self):
        self.right_step("given", "a")
        self.right_step("given", "n")
        self.no_names("given", "a")
        self.step("column", "given", "q")
        self.step("column", "given", "d")

    def test_within(self):
        for low, high in [("a", "b"), ("a", "a"), ("Z", "a"), ("10", "9")]:
            self.right_step("within", "a", low, high)
            self.step("kind", "within", "n", low, high)
            self.step("column", "within", "q", low, high)
        for low, high in [(1, 2), (-5, -5), (9, 10)]:
            self.right_step("within", "n", low, high)
            self.step("kind", "within", "a", low, high)
        for low, high in [("b", "a"), (2, 1), ("9", "10"), (None, 1), (1, None), (None, None), (True, 1),
                          (0, True), ("", "a"), ("a", "b "), (" a", "b"), (("a",), "b"), (False, "a")]:
            for column in ["a", "n", "q"]:
                self.step("form", "within", column, low, high)
        for low, high in [("a", 1), (1, "a"), (2, "1"), ("2", 1)]:
            for column in ["a", "n"]:
                self.step("kind", "within", column, low, high)
            self.step("column", "within", "q", low, high)
        for name in NO_NAMES:
            self.step("form", "within", name, 1, 2)

    def test_among(self):
        for worths in [("a",), ("Z", "a", "a b"), ("10", "9")]:
            self.right_step("among", "a", worths)
            self.step("kind", "among", "n", worths)
            self.step("column", "among", "q", worths)
        for worths in [(1,), (-5, 0, 7), (9, 10)]:
            self.right_step("among", "n", worths)
            self.step("kind", "among", "a", worths)
        for worths in [(), ("b", "a"), ("a", "a"), (1, 1), (2, 1), (10, 9), (None,), (None, "a"), ("a", None),
                       (1, None), (True,), (0, True), ("",), ("a", "b "), (("a",),), "ab", (1, "a", None),
                       ("a", 1, ""), ("a", 1, False)]:
            for column in ["a", "n", "q"]:
                self.step("form", "among", column, worths)
        for worths in [("a", 1), (1, "a"), (1, 2, "a"), ("b", "a", 1), (1, "a", 1), (2, 1, "a")]:
            for column in ["a", "n"]:
                self.step("kind", "among", column, worths)
            self.step("column", "among", "q", worths)

    def test_before(self):
        self.right_step("before", "a", "b")
        self.right_step("before", "b", "a")
        self.no_names("before", "a", "b")
        self.step("form", "before", "a", "a")
        self.step("form", "before", "q", "q")
        self.step("column", "before", "a", "q")
        self.step("column", "before", "q", "n")
        self.step("kind", "before", "a", "n")
        self.step("kind", "before", "n", "a")

    def test_unlike(self):
        for columns in [("a",), ("a", "n"), ("c", "b", "a")]:
            self.right_step("unlike", columns)
        self.no_names("unlike", ("a", "b"))
        for columns in [(), ("a", "b", "c", "n"), ("a", "a"), ("a", "b", "a"), ("q", "q"), "a"]:
            self.step("form", "unlike", columns)
        self.step("column", "unlike", ("q",))
        self.step("column", "unlike", ("a", "d"))

    def test_fill(self):
        for keys in [(), ("b",), ("b", "c"), ("n", "b")]:
            self.right_step("fill", "a", keys)
        self.right_step("fill", "n", ("a",))
        self.no_names("fill", "a", ("b", "c"))
        for keys in [("a",), ("b", "a"), ("b", "b"), ("b", "c", "n"), "b", None]:
            self.step("form", "fill", "a", keys)
        self.step("form", "fill", "q", ("q",))
        self.step("column", "fill", "q", ())
        self.step("column", "fill", "a", ("q",))
        self.step("column", "fill", "a", ("b", "d"))

    def test_look(self):
        self.right_step("look", "a", "t", "b", "a", "x")
        self.right_step("look", "a", "u", "d", "k", "x")
        self.right_step("look", "a", "u", "d", "d", "d")
        self.right_step("look", "n", "u", "k", "d", "k" + "k")
        self.no_names("look", "a", "u", "d", "e", "x")
        for table in ["q", "v", "s", "z", "a"]:
            self.step("name", "look", "a", table, "d", "e", "x")
        self.step("name", "look", "q", "q", "q", "q", "a")
        self.step("column", "look", "q", "u", "d", "e", "x")
        self.step("column", "look", "a", "u", "a", "e", "x")
        self.step("column", "look", "a", "u", "d", "a", "x")
        self.step("column", "look", "a", "u", "d", "e", "b")
        self.step("column", "look", "a", "u", "k", "e", "b")
        self.step("kind", "look", "a", "u", "k", "e", "x")
        self.step("kind", "look", "n", "u", "d", "k", "x")

    def test_columns_that_steps_ahead_make(self):
        steps = (("p", "cut", "a", ",", ("x", "y")), ("q", "read", "x", ("whole",), "z"),
                 ("r", "look", "z", "u", "k", "k", "w"), ("s", "glue", ("x", "y"), ",", "g"),
                 ("t", "among", "w", (1, 2)), ("u", "given", "g"), ("v", "look", "y", "u", "d", "d", "f"),
                 ("w", "put", "f", "no"))
        self.right(("of", "s"), steps)
        self.assertEqual(look_program(program_of(("of", "s"), steps[1:])), (2, 0, "column"))
        self.assertEqual(look_program(program_of(("of", "s"), (steps[0], *steps[2:]))), (2, 1, "column"))
        twice = (*steps, ("x", "read", "y", ("whole",), "w"))
        self.assertEqual(look_program(program_of(("of", "s"), twice)), (2, 8, "column"))
        kinds = (*steps, ("x", "read", "w", ("whole",), "h"))
        self.assertEqual(look_program(program_of(("of", "s"), kinds)), (2, 8, "kind"))
        kinds = (*steps, ("x", "within", "f", 1, 2))
        self.assertEqual(look_program(program_of(("of", "s"), kinds)), (2, 8, "kind"))

    def test_form_then_name_then_column_then_kind(self):
        ahead = ("p", "given", "a")

        def told(*step):
            return look_program(program_of(("of", "s"), (ahead, step)))

        self.assertEqual(told("p", "put", "q", None), (2, 1, "form"))
        self.assertEqual(told("p", "put", "q", 1), (2, 1, "name"))
        self.assertEqual(told("p", "put", "a", 1), (2, 1, "name"))
        self.assertEqual(told("w", "put", "q", 1), (2, 1, "column"))
        self.assertEqual(told("w", "put", "a", 1), (2, 1, "kind"))
        self.assertEqual(told("w", "among", "q", ("a", 1)), (2, 1, "column"))
        self.assertEqual(told("w", "look", "q", "q", "q", "q", "q" * 9), (2, 1, "form"))


class Behinds(Cases):

    STEPS = tuple((name, "given", "a") for name in "cabd")

    def behinds(self, why, *behinds):
        told = look_program(program_of(("of", "s"), self.STEPS, behinds))
        self.assertEqual(told, (2, 4, why), behinds)

    def test_behinds(self):
        for behinds in [(), (("c", "a"),), (("a", "b"), ("a", "d"), ("b", "d"), ("c", "a"), ("c", "d"))]:
            self.right(("of", "s"), self.STEPS, behinds)

    def test_form(self):
        for pair in [("c",), ("c", "a", "b"), (), "ca", None, ["c", "a"], ("c", None), (None, "a"), (1, 2)]:
            self.behinds("form", pair)
            self.behinds("form", ("a", "b"), pair)
        for name in NO_NAMES:
            self.behinds("form", (name, "a"))
            self.behinds("form", ("c", name))

    def test_pairs_that_do_not_rise(self):
        self.behinds("form", ("c", "a"), ("c", "a"))
        self.behinds("form", ("c", "a"), ("a", "b"))
        self.behinds("form", ("a", "d"), ("a", "b"))
        self.behinds("form", ("q", "r"), ("a", "b"))
        self.behinds("form", ("q", "r"), ("q", "r"))

    def test_names(self):
        for pair in [("q", "a"), ("c", "q"), ("q", "q"), ("a", "c"), ("c", "c"), ("d", "c"), ("d", "b"), ("s", "t")]:
            self.behinds("name", pair)
        self.behinds("name", ("a", "b"), ("c", "a"), ("d", "b"))
        self.behinds("name", ("a", "c"), ("c", "a"))

    def test_of_no_steps(self):
        self.assertEqual(look_program(program_of(("of", "s"), (), (("a", "b"),))), (2, 0, "name"))
        self.assertEqual(look_program(program_of(("of", "s"), (), (None,))), (2, 0, "form"))


class FirstFault(Cases):

    # Each with where it is at fault, none touching another.
    FAULTS = [
        ((0, 2), ("bills", BILLS), (-1, -1, "name")),
        ((0, 1, 1, 1), (4, 21), (-1, -1, "form")),
        ((1, 0, 1), ("of", "paid"), (0, -1, "name")),
        ((1, 0, 2, 0, 3), "//", (0, 0, "form")),
        ((1, 0, 3), (("glueit", "nope"),), (0, 1, "name")),
        ((1, 1, 2, 0, 3, 0), ("b", "bern"), (1, 0, "form")),
        ((1, 1, 2, 1, 3), 7, (1, 1, "kind")),
        ((1, 1, 2, 3, 4), "dated", (1, 3, "column")),
        ((1, 1, 2, 6, 3), 1000000, (1, 6, "form")),
        ((1, 1, 2, 7, 3), ("basel", 1), (1, 7, "kind")),
        ((1, 1, 2, 10, 0), "spellit", (1, 10, "name")),
        ((1, 1, 3, 0), ("among", "among"), (1, 12, "name")),
        ((1, 1, 3, 3), ("cutit", "given"), (1, 12, "form")),
        ((1, 2, 1, 2), "paid", (2, -1, "form")),
        ((1, 2, 1, 3, 1, 0), "cents", (2, -1, "kind")),
        ((1, 3, 1, 3, 1, 2), "place", (3, -1, "kind")),
        ((1, 3, 2, 0, 2), "nope", (3, 0, "column")),
        ((1, 4, 0), "bills", (4, -1, "name")),
        ((1, 5, 1, 3), "q", (5, -1, "column")),
    ]

    def test_each_alone(self):
        self.assertIs(BILLS, FULL[0][0][1])
        for path, value, fault in self.FAULTS:
            self.assertEqual(look_program(replaced(FULL, path, value)), fault, path)

    def test_of_two_the_first_one(self):
        for (path, value, fault), (other_path, other, other_fault) in itertools.combinations(self.FAULTS, 2):
            told = look_program(replaced(replaced(FULL, path, value), other_path, other))
            wanted = min([fault, other_fault], key=lambda one: (one[0], one[1], WHYS.index(one[2])))
            self.assertEqual(told, wanted, (path, other_path))

    def test_of_all_the_first_one(self):
        faults = sorted(self.FAULTS, key=lambda one: (one[2][0], one[2][1], WHYS.index(one[2][2])))
        for first in range(len(faults)):
            program = FULL
            for path, value, _ in faults[first:]:
                program = replaced(program, path, value)
            self.assertEqual(look_program(program), faults[first][2])


class Columns(unittest.TestCase):

    def test_of_each_origin(self):
        text, number = "text", "number"
        self.assertEqual(columns_of(FULL, "town"), (("code", text), ("title", text), ("both", text)))
        paid = (("who", text), ("place", text), ("day", text), ("sum", text), ("dated", number),
                ("cents", number), ("first", text), ("last", text), ("zip", text))
        self.assertEqual(columns_of(FULL, "paid"), paid)
        self.assertEqual(columns_of(FULL, "both"), (*paid, ("both", text)))
        self.assertEqual(columns_of(FULL, "sums"), (
            ("place", text), ("many", number), ("all", number), ("low", number), ("one", text)))
        self.assertEqual(columns_of(FULL, "long"), (
            ("place", text), ("many", number), ("one", text), ("what", text), ("worth", number)))
        self.assertEqual(columns_of(FULL, "wide"), (("place", text), ("every", number), ("early", number)))

    def test_in_the_order_of_steps_not_of_behinds(self):
        steps = (("b", "read", "a", ("whole",), "x"), ("a", "cut", "b", ",", ("z", "y")),
                 ("d", "look", "a", "u", "d", "k", "p"), ("c", "look", "a", "u", "d", "e", "o"))
        program = program_of(("of", "s"), steps)
        self.assertEqual(columns_of(program, "v"), (
            ("a", "text"), ("b", "text"), ("c", "text"), ("x", "number"), ("z", "text"), ("y", "text"),
            ("p", "number"), ("o", "text")))
        self.assertEqual(columns_of(table="u", program=program), (("d", "text"), ("e", "text"), ("k", "number")))

    def test_keys_sums_and_told_in_their_own_order(self):
        program = program_of(("group", "t", ("n", "a"), (
            ("z", "most", "a"), ("y", "first", "n"), ("x", "least", "b"), ("w", "count", None))))
        self.assertEqual(columns_of(program, "v"), (
            ("n", "number"), ("a", "text"), ("z", "text"), ("y", "number"), ("x", "text"), ("w", "number")))
        program = program_of(("wide", "t", ("m", "c"), "a", "n", (("q", "z"), ("p", "y"))))
        self.assertEqual(columns_of(program, "v"), (
            ("m", "number"), ("c", "text"), ("z", "number"), ("y", "number")))
        program = program_of(("long", "t", ("n",), "x", "a" * 8))
        self.assertEqual(columns_of(program, "v"), (
            ("a", "text"), ("b", "text"), ("c", "text"), ("m", "number"), ("x", "text"), ("a" * 8, "number")))
        program = program_of(("long", "t", ("c", "a"), "a", "c"))
        self.assertEqual(columns_of(program, "v"), (
            ("b", "text"), ("n", "number"), ("m", "number"), ("a", "text"), ("c", "text")))


if __name__ == "__main__":
    unittest.main()
