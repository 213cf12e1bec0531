import itertools
import unittest

from cleanedtables.cells import add_row
from cleanedtables.errors import Clash, NoOrder
from cleanedtables.programs import columns_of
from cleanedtables.running import run
from cleanedtables.spans import alike, spread, texts_at

AB = ("signs", ",", '"', ("a", "b"))
SOURCES = (("s", AB), ("q", ("named", ";", ("d",))), ("p", ("places", (2,), ("f",))))
OF = ("t", ("of", "s"), (), ())
SPAN = ("s", (("x", None), ("1",)), 2)
Q = ("q", (("1", "2", None),), 1)
P = ("p", (("u", "v"),), 1)


def program(*tables, sources=SOURCES[:1]):
    return (sources, tables)


def all_texts(told, spans):
    """All lots of texts, in order, by their number of rows, then source by source."""
    shapes = dict(told[0])
    lots = []
    for counts in itertools.product(*(range(most + 1) for _, _, most in spans)):
        for rows in itertools.product(*(itertools.product(itertools.product(*(range(len(own)) for own in worths)),
                                                          repeat=many)
                                        for many, (_, worths, _) in zip(counts, spans))):
            key = (sum(counts), *((many, places) for many, places in zip(counts, rows)))
            texts = []
            for (name, worths, _), places in zip(spans, rows):
                text = ""
                for row in places:
                    text = add_row(shapes[name], text, tuple(own[place] for own, place in zip(worths, row)))
                texts.append((name, text))
            lots.append((key, tuple(sorted(texts))))
    return [texts for _, texts in sorted(lots)]


SPANS = [
    (SOURCES[:1], (SPAN,)),
    (SOURCES[:1], (("s", ((None,), (None,)), 3),)),
    (SOURCES[:1], (("s", (("x",), ("y",)), 0),)),
    (SOURCES[:1], (("s", (("x", "y", None), ("2", "1")), 3),)),
    (SOURCES[:2], (SPAN, Q)),
    (SOURCES[:2], (("s", (("x", "y"), ("1", None)), 1), ("q", (("2", "1"),), 3))),
    (SOURCES[:2], (("s", (("x", "y"), ("1", None)), 0), ("q", (("2", "1"),), 2))),
    (SOURCES, (SPAN, Q, P)),
    (SOURCES, (("s", (("x", "y", "a,b"), ("1",)), 1), ("q", (("1", "2"),), 2), ("p", (("u", None),), 2))),
    (SOURCES[1:], (("q", (("1",),), 3), ("p", (("u", "v", None),), 2))),
]


class Spread(unittest.TestCase):

    def test_by_hand(self):
        self.assertEqual(spread(program(OF), (SPAN,)), 1 + 2 + 4)
        self.assertEqual(spread(program(OF), (("s", (("x",), ("y",)), 0),)), 1)
        self.assertEqual(spread(program(OF, sources=SOURCES[:2]), (SPAN, Q)), 7 * 4)
        self.assertEqual(spread(program(OF, sources=SOURCES), (SPAN, Q, P)), 7 * 4 * 3)
        self.assertEqual(spread(spans=(SPAN,), program=program(OF)), 7)

    def test_many(self):
        six = ("signs", ",", '"', tuple("abcdef"))
        span = tuple(("x", "y", None) for _ in range(6))
        told = program(("t", ("of", "s"), (), ()), sources=(("s", six), ("r", six), ("z", six)))
        own = 1 + 729 + 729 ** 2 + 729 ** 3
        self.assertEqual(spread(told, (("s", span, 3), ("r", span, 3), ("z", span, 3))), own ** 3)

    def test_as_many_as_there_are(self):
        for sources, spans in SPANS:
            told = program(("t", ("of", sources[0][0]), (), ()), sources=sources)
            self.assertEqual(spread(told, spans), len(all_texts(told, spans)))


class TextsAt(unittest.TestCase):

    def test_by_hand(self):
        told = program(OF)
        self.assertEqual([dict(texts_at(told, (SPAN,), which))["s"] for which in range(7)], [
            "", "x,1\n", ",1\n", "x,1\nx,1\n", "x,1\n,1\n", ",1\nx,1\n", ",1\n,1\n"])

    def test_worth_by_worth_as_they_stand(self):
        span = ("s", (("y", "x"), (None, "1", "0")), 1)
        self.assertEqual([dict(texts_at(program(OF), (span,), which))["s"] for which in range(7)], [
            "", "y,\n", "y,1\n", "y,0\n", "x,\n", "x,1\n", "x,0\n"])

    def test_fewer_rows_in_all_then_source_by_source(self):
        told = program(OF, sources=SOURCES[:2])
        spans = (("s", (("x",), ("1", "2")), 2), ("q", (("5",),), 1))
        self.assertEqual([texts_at(told, spans, which) for which in range(14)], [
            (("q", ""), ("s", "")), (("q", "d=5\n"), ("s", "")), (("q", ""), ("s", "x,1\n")),
            (("q", ""), ("s", "x,2\n")), (("q", "d=5\n"), ("s", "x,1\n")), (("q", "d=5\n"), ("s", "x,2\n")),
            (("q", ""), ("s", "x,1\nx,1\n")), (("q", ""), ("s", "x,1\nx,2\n")), (("q", ""), ("s", "x,2\nx,1\n")),
            (("q", ""), ("s", "x,2\nx,2\n")), (("q", "d=5\n"), ("s", "x,1\nx,1\n")),
            (("q", "d=5\n"), ("s", "x,1\nx,2\n")), (("q", "d=5\n"), ("s", "x,2\nx,1\n")),
            (("q", "d=5\n"), ("s", "x,2\nx,2\n"))])

    def test_all_in_order(self):
        for sources, spans in SPANS:
            told = program(("t", ("of", sources[0][0]), (), ()), sources=sources)
            wanted = all_texts(told, spans)
            self.assertEqual([texts_at(told, spans, which) for which in range(len(wanted))], wanted)

    def test_most_of_none(self):
        spans = (("s", (("x",), ("1",)), 0), ("q", (("1",),), 0))
        self.assertEqual(texts_at(program(OF, sources=SOURCES[:2]), spans, 0), (("q", ""), ("s", "")))

    def test_far_out(self):
        six = ("signs", ",", '"', tuple("abcdef"))
        span = tuple(("x", "y", None) for _ in range(6))
        told = program(OF, sources=(("s", six), ("r", six)))
        spans = (("s", span, 3), ("r", span, 3))
        # 0 rows: 1; 1 row: 729 of r, 729 of s; 2 rows: of r alone, of both, of s alone.
        self.assertEqual(texts_at(told, spans, 1 + 729), (("r", ""), ("s", "x,x,x,x,x,x\n")))
        self.assertEqual(texts_at(told, spans, 1 + 1458 + 729 ** 2), (("r", "x,x,x,x,x,x\n"), ("s", "x,x,x,x,x,x\n")))
        self.assertEqual(texts_at(told, spans, 1 + 1458 + 729 ** 2 + 729 + 5),
                         (("r", "x,x,x,x,y,\n"), ("s", "x,x,x,x,x,y\n")))
        self.assertEqual(texts_at(told, spans, 999999999)[0][0], "r")
        last = spread(told, spans) - 1
        self.assertEqual(texts_at(told, spans, last), (("r", ",,,,,\n" * 3), ("s", ",,,,,\n" * 3)))

    def test_no_order(self):
        for which in [-1, 7, 8, 999999999, -999999999]:
            with self.assertRaises(NoOrder) as caught:
                texts_at(program(OF), (SPAN,), which)
            self.assertEqual(vars(caught.exception), {"which": which})
        with self.assertRaises(NoOrder):
            texts_at(which=1, spans=(("s", (("x",), ("y",)), 0),), program=program(OF))


class Alike(unittest.TestCase):

    def told(self, one, other, wanted, *, tables=("t",), spans=(SPAN,), sources=SOURCES[:1]):
        one, other = program(*one, sources=sources), program(*other, sources=sources)
        told = alike(one, other, tables, spans)
        self.assertEqual(told, wanted)
        self.assertEqual(told, by_hand(one, other, tables, spans))
        # Told the other way round, too.
        self.assertEqual(alike(other, one, tables, spans), wanted)

    def of(self, *steps, behinds=()):
        return (("t", ("of", "s"), steps, behinds),)

    def test_alike(self):
        self.told(self.of(), self.of(), ("alike", 7))
        self.told(self.of(("p", "put", "a", "x"),), self.of(("q", "spell", "a", ()), ("p", "put", "a", "x"),
                                                            behinds=(("q", "p"),)), ("alike", 7))
        self.told(self.of(("g", "given", "a")), self.of(("m", "among", "a", ("x",)), ("h", "given", "a")), ("alike", 7))
        self.told(self.of(("g", "within", "b", "0", "2")), self.of(), ("alike", 7))

    def test_most_of_none(self):
        self.told(self.of(("g", "given", "a")), self.of(), ("alike", 1), spans=(("s", (("x",), ("y",)), 0),))

    def test_parted_by_a_column(self):
        first = ("parted", (("s", ""),))
        self.told(self.of(("c", "glue", ("a",), "-", "n")), self.of(), first)
        self.told(self.of(("c", "glue", ("a",), "-", "n")), self.of(("c", "glue", ("a",), "-", "m")), first)
        # By its kind alone, and by the order of columns alone.
        self.told(self.of(("c", "glue", ("b",), "-", "n")), self.of(("r", "read", "b", ("whole",), "n")), first)
        self.told(self.of(("c", "glue", ("a",), "-", "n"), ("d", "glue", ("a",), "-", "m")),
                  self.of(("d", "glue", ("a",), "-", "m"), ("c", "glue", ("a",), "-", "n")), first)

    def test_parted_by_a_column_of_programs_that_have_no_lot_but_the_first(self):
        self.told(self.of(("c", "glue", ("a",), "-", "n")), self.of(), ("parted", (("s", ""),)),
                  spans=(("s", (("x",), ("y",)), 0),))

    def test_parted_by_a_worth(self):
        self.told(self.of(("p", "put", "a", "y")), self.of(), ("parted", (("s", ",1\n"),)))
        self.told(self.of(("p", "put", "a", "y")), self.of(("p", "put", "a", "x")), ("parted", (("s", ",1\n"),)))
        # A row ahead must give it.
        self.told(self.of(("f", "fill", "a", ())), self.of(), ("parted", (("s", "x,1\n,1\n"),)))

    def test_parted_by_how_many_rows_stand(self):
        self.told(self.of(("g", "given", "a")), self.of(), ("parted", (("s", ",1\n"),)))
        self.told(self.of(("u", "unlike", ("a",))), self.of(), ("parted", (("s", "x,1\nx,1\n"),)))

    def test_marked_rows_are_not_looked_at(self):
        one = self.of(("g", "given", "a"), ("p", "put", "b", "z"))
        other = self.of(("h", "given", "a"))
        self.told(one, other, ("alike", 7))

    def test_parted_by_the_order_of_rows(self):
        def long(first, second):
            return (OF, ("l", ("long", "t", (first, second), "n", "v"), (("sp", "spell", "n", (("b", "a"),)),), ()))

        self.told(long("a", "b"), long("b", "a"), ("parted", (("s", "x,1\n"),)), tables=("l",))
        span = ("s", (("1",), ("1",)), 2)
        self.told(long("a", "b"), long("b", "a"), ("alike", 3), tables=("l",), spans=(span,))

    def test_not_by_what_rows_are_called(self):
        one = (OF, ("g", ("group", "t", ("a", "b"), (("n", "count", None),)), (("p", "put", "b", "1"),), ()))
        other = (OF, ("h", ("group", "t", ("a", "b"), (("m", "count", None),)), (), ()),
                 ("g", ("group", "h", ("a", "b"), (("n", "total", "m"),)), (("p", "put", "b", "1"),), ()))
        self.told(one, other, ("alike", 7), tables=("g",))
        # Rows of long and rows of a source.
        one = (OF, ("v", ("long", "t", ("a",), "n", "w"), (), ()),
               ("g", ("group", "v", ("w",), (("k", "count", None),)), (), ()))
        other = (("t", ("of", "s"), (("c", "glue", ("a",), "-", "w"),), ()),
                 ("g", ("group", "t", ("w",), (("k", "count", None),)), (), ()))
        self.told(one, other, ("alike", 7), tables=("g",))

    def test_of_the_tables_told_alone(self):
        one = (OF, ("u", ("of", "s"), (("g", "given", "a"),), ()))
        other = (OF, ("u", ("of", "s"), (), ()))
        self.told(one, other, ("alike", 7))
        self.told(one, other, ("parted", (("s", ",1\n"),)), tables=("u",))
        self.told(one, other, ("parted", (("s", ",1\n"),)), tables=("t", "u"))
        self.told(one, other, ("alike", 7), tables=())
        # Other tables may be there in one alone.
        self.told(one, (OF,), ("alike", 7))

    def test_of_several_sources(self):
        tables = (OF, ("k", ("of", "q"), (), ()), ("j", ("join", "t", "k", (("b", "d"),)), (), ()))
        other = (OF, ("k", ("of", "q"), (("u", "unlike", ("d",)),), ()),
                 ("j", ("join", "t", "k", (("b", "d"),)), (), ()))
        self.told(tables, other, ("alike", 28), tables=("j", "t"), spans=(SPAN, Q), sources=SOURCES[:2])
        spans = (SPAN, ("q", (("1", "2"),), 2))
        self.told(tables, other, ("parted", (("q", "d=1\nd=1\n"), ("s", "x,1\n"))), tables=("j",), spans=spans,
                  sources=SOURCES[:2])

    def test_the_first_by_the_order_of_lots(self):
        spans = (("s", (("x", "y"), ("1",)), 2), ("q", (("1", "2"),), 2))
        one = (("k", ("of", "q"), (("u", "unlike", ("d",)),), ()), ("t", ("of", "s"), (("v", "unlike", ("a",)),), ()))
        other = (("k", ("of", "q"), (), ()), OF)
        self.told(one, other, ("parted", (("q", "d=1\nd=1\n"), ("s", ""))), tables=("t", "k"), spans=spans,
                  sources=SOURCES[:2])
        self.told(one, other, ("parted", (("q", ""), ("s", "x,1\nx,1\n"))), tables=("t",), spans=spans,
                  sources=SOURCES[:2])

    def test_against_run_of_each_lot(self):
        steps = [("g", "given", "a"), ("m", "among", "a", ("x",)), ("f", "fill", "a", ()), ("u", "unlike", ("a",)),
                 ("p", "put", "a", "x"), ("sp", "spell", "a", (("x", None),)), ("b", "before", "b", "a")]
        for one in steps:
            for other in steps:
                first, second = program(("t", ("of", "s"), (one,), ())), program(("t", ("of", "s"), (other,), ()))
                self.assertEqual(alike(first, second, ("t",), (SPAN,)), by_hand(first, second, ("t",), (SPAN,)))

    def test_by_names_and_again(self):
        wanted = ("alike", 7)
        for _ in range(2):
            self.assertEqual(alike(spans=(SPAN,), tables=("t",), other=program(OF), one=program(OF)), wanted)

    def test_clashes_of_one_then_of_other(self):
        steps = (("z", "put", "a", "x"), ("b", "given", "a"))
        clash = program(("u", ("of", "s"), steps, ()), OF)
        again = program(OF, ("v", ("of", "s"), steps, ()))
        for one, other, table in [(clash, program(OF), "u"), (program(OF), clash, "u"), (clash, again, "u"),
                                  (again, clash, "v")]:
            with self.assertRaises(Clash) as caught:
                alike(one, other, ("t",), (SPAN,))
            self.assertEqual(vars(caught.exception), {"table": table, "step": "z", "other": "b", "what": "a"})

    def test_the_size_that_is_promised(self):
        spans = (("s", (("x", "y", None), ("1", None)), 3),)
        self.assertEqual(spread(program(OF), spans), 259)
        self.told(self.of(("f", "fill", "a", ())), self.of(("f", "fill", "a", ()), ("c", "spell", "b", ())),
                  ("alike", 259), spans=spans)


def by_hand(one, other, tables, spans):
    lots = all_texts(one, spans)
    for texts in lots:
        told = []
        for each in (one, other):
            rows = {name: [worths for _, worths, marks in rows if not marks] for name, rows, _ in run(each, texts)}
            told.append([(columns_of(each, name), rows[name]) for name in tables])
        if told[0] != told[1]:
            return ("parted", texts)
    return ("alike", len(lots))


if __name__ == "__main__":
    unittest.main()
