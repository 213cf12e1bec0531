import unittest

from cleanedtables.errors import Clash, NoRow
from cleanedtables.lots import lot_of, run_only, sources_of
from cleanedtables.running import run
from tests.oracle_asks import Things
from tests.samples import FULL, FULL_TEXTS, Drawn
from tests.test_asking import ABC, SMALL, SMALL_TEXTS, s
from tests.things import ODD_KINDS

SOURCES = (("s", ABC), ("q", ("named", ";", ("d", "e"))))
OF = ("t", ("of", "s"), (), ())


def q(number):
    return ("q", number)


def of(table, rows):
    return [(table, row) for row in rows]


class Lots(unittest.TestCase):

    def lot(self, tables, rows, table, row, *wanted, others=""):
        program, texts = (SOURCES, tables), (("q", others), ("s", rows))
        told = lot_of(program, texts, table, row)
        self.assertEqual(told, tuple(wanted))
        self.assertEqual(alone(program, texts, told), told)

    def test_a_row_alone(self):
        self.lot((OF,), "x,1,\ny,2,\n", "t", s(1), ("t", s(1)))

    def test_the_same_row_of_a_source_in_all_its_tables(self):
        tables = (OF, ("u", ("of", "s"), (("g", "given", "a"),), ()), ("k", ("of", "q"), (), ()),
                  ("v", ("of", "s"), (), ()))
        for table in "tuv":
            self.lot(tables, ",1,\ny,2,\n", table, s(0), ("t", s(0)), ("u", s(0)), ("v", s(0)), others="d=1\n")
        self.lot(tables, ",1,\ny,2,\n", "k", q(0), ("k", q(0)), others="d=1\n")

    def test_unlike_leans_on_the_nearest_row_that_marks(self):
        tables = (("t", ("of", "s"), (("u", "unlike", ("a",)),), ()),)
        rows = "x,1,\ny,,\nx,2,\nx,3,\ny,,\n,,\n"
        self.lot(tables, rows, "t", s(0), ("t", s(0)))
        self.lot(tables, rows, "t", s(2), ("t", s(0)), ("t", s(2)))
        self.lot(tables, rows, "t", s(3), ("t", s(0)), ("t", s(2)), ("t", s(3)))
        self.lot(tables, rows, "t", s(4), ("t", s(1)), ("t", s(4)))
        self.lot(tables, rows, "t", s(5), ("t", s(5)))

    def test_unlike_leans_on_rows_that_stand_ahead_of_it(self):
        tables = (("t", ("of", "s"), (("g", "given", "b"), ("u", "unlike", ("a",))), (("g", "u"),)),)
        rows = "x,1,\nx,,\nx,2,\n"
        self.lot(tables, rows, "t", s(1), ("t", s(1)))
        self.lot(tables, rows, "t", s(2), ("t", s(0)), ("t", s(2)))

    def test_fill_leans_on_the_row_that_gave(self):
        tables = (("t", ("of", "s"), (("g", "given", "c"), ("f", "fill", "a", ("b",))), (("g", "f"),)),)
        rows = "x,1,1\ny,1,1\nz,2,1\nw,1,\n,1,1\n,1,\n,3,1\n"
        self.lot(tables, rows, "t", s(4), ("t", s(1)), ("t", s(4)))
        self.lot(tables, rows, "t", s(5), ("t", s(1)), ("t", s(5)))
        self.lot(tables, rows, "t", s(6), ("t", s(6)))
        self.lot(tables, rows, "t", s(3), ("t", s(3)))
        # Two that none gives a worth lean on nothing, neither on one another.
        self.lot(tables, ",1,1\n,1,1\n", "t", s(1), ("t", s(1)))

    def test_look_leans_on_the_row_found_or_the_first_two(self):
        tables = (("k", ("of", "q"), (("g", "given", "e"),), ()),
                  ("t", ("of", "s"), (("l", "look", "a", "k", "d", "e", "x"),), ()))
        others = "d=1;e=p\nd=2\nd=2;e=q\nd=2;e=r\nd=2;e=s\nd=3;e=t\n"
        rows = "1,,\n2,,\n,,\n9,,\n"
        self.lot(tables, rows, "t", s(0), ("k", q(0)), ("t", s(0)), others=others)
        self.lot(tables, rows, "t", s(1), ("k", q(2)), ("k", q(3)), ("t", s(1)), others=others)
        self.lot(tables, rows, "t", s(2), ("t", s(2)), others=others)
        self.lot(tables, rows, "t", s(3), ("t", s(3)), others=others)
        self.lot(tables, rows, "k", q(3), ("k", q(3)), others=others)

    def test_join_down_and_up(self):
        tables = (OF, ("k", ("of", "q"), (), ()), ("j", ("join", "t", "k", (("a", "d"),)), (("g", "given", "e"),), ()))
        rows, others = "1,,\n1,x,\n2,,\n", "d=1;e=p\nd=1\nd=3\n"
        row = (s(0), q(1))
        self.lot(tables, rows, "j", row, ("t", s(0)), ("k", q(1)), ("j", row), others=others)
        # One row alone has no row of the join with it.
        self.lot(tables, rows, "t", s(0), ("t", s(0)), others=others)
        self.lot(tables, rows, "k", q(1), ("k", q(1)), others=others)

    def test_join_of_two_rows_that_come_otherwise(self):
        tables = (("k", ("of", "q"), (), ()), ("t", ("of", "s"), (("l", "look", "a", "k", "d", "e", "x"),), ()),
                  ("j", ("join", "t", "k", (("x", "e"),)), (), ()), ("i", ("join", "k", "t", (("d", "a"),)), (), ()))
        rows, others = "1,,\n2,,\n", "d=1;e=p\nd=2;e=p\n"
        self.lot(tables, rows, "t", s(0), ("k", q(0)), ("t", s(0)), ("j", (s(0), q(0))), ("i", (q(0), s(0))),
                 others=others)

    def test_group_all_the_way(self):
        tables = (("t", ("of", "s"), (("g", "given", "b"),), ()),
                  ("gr", ("group", "t", ("a",), (("m", "count", None),)), (("w", "within", "m", 2, 9),), ()),
                  ("h", ("group", "gr", (), (("n", "count", None),)), (), ()))
        rows = "x,1,\nx,2,\nx,,\ny,3,\nz,4,\nz,5,\n"
        up = [("t", s(0)), ("t", s(1)), ("t", s(4)), ("t", s(5)), ("gr", ("x",)), ("gr", ("z",)), ("h", ())]
        self.lot(tables, rows, "h", (), *up)
        self.lot(tables, rows, "t", s(1), *up)
        self.lot(tables, rows, "t", s(2), ("t", s(2)))
        # A row of the group that is marked is of no group on top.
        self.lot(tables, rows, "t", s(3), ("t", s(3)), ("gr", ("y",)))
        self.lot(tables, rows, "gr", ("y",), ("t", s(3)), ("gr", ("y",)))

    def test_rows_of_other_tables_that_are_called_alike(self):
        tables = (OF, ("k", ("of", "q"), (), ()),
                  ("gr", ("group", "t", ("a",), (("m", "count", None),)), (), ()),
                  ("h", ("group", "k", ("d",), (("m", "count", None),)), (), ()),
                  ("w", ("wide", "t", ("b",), "a", "c", (("y", "yy"),)), (), ()))
        rows, others = "x,1,\ny,x,\n", "d=x\n"
        self.lot(tables, rows, "gr", ("x",), ("t", s(0)), ("gr", ("x",)), others=others)
        self.lot(tables, rows, "h", ("x",), ("k", q(0)), ("h", ("x",)), others=others)
        self.lot(tables, rows, "w", ("x",), ("t", s(1)), ("gr", ("y",)), ("w", ("x",)), others=others)

    def test_wide_has_its_first_rows(self):
        wide = ("w", ("wide", "t", ("c",), "a", "b", (("p", "pp"), ("q", "qq"))), (), ())
        tables = (("t", ("of", "s"), (("g", "given", "b"),), ()), wide)
        rows = "p,1,\nq,2,\np,3,\nr,4,\np,,\nq,5,k\np,6,\n"
        first = [("t", s(0)), ("t", s(1)), ("w", (None,))]
        self.lot(tables, rows, "w", (None,), *first)
        self.lot(tables, rows, "t", s(0), *first)
        # Rows behind the first ones are of these keys, too, others alone.
        self.lot(tables, rows, "t", s(2), ("t", s(0)), ("t", s(1)), ("t", s(2)), ("w", (None,)))
        self.lot(tables, rows, "t", s(6), ("t", s(0)), ("t", s(1)), ("t", s(6)), ("w", (None,)))
        self.lot(tables, rows, "t", s(3), ("t", s(3)))
        self.lot(tables, rows, "t", s(4), ("t", s(4)))
        self.lot(tables, rows, "w", ("k",), ("t", s(5)), ("w", ("k",)))

    def test_long_down_and_up(self):
        tables = (("t", ("of", "s"), (("g", "given", "c"),), ()),
                  ("l", ("long", "t", ("b", "a"), "n", "v"), (("w", "given", "v"),), ()),
                  ("m", ("long", "l", ("v",), "nn", "vv"), (), ()))
        rows = "x,,1\ny,2,\n"
        lot = [("t", s(0)), ("l", (s(0), "b")), ("l", (s(0), "a")), ("m", ((s(0), "a"), "v"))]
        for table, row in lot:
            self.lot(tables, rows, table, row, *lot)
        self.lot(tables, rows, "t", s(1), ("t", s(1)))

    def test_all_tables_in_order_all_the_way_up_and_down(self):
        told = lot_of(FULL, FULL_TEXTS, "wide", ("bern",))
        self.assertEqual(told, (
            ("town", ("towns", 0)), ("paid", ("bills", 0)), ("paid", ("bills", 3)),
            ("both", (("bills", 0), ("towns", 0))), ("both", (("bills", 3), ("towns", 0))), ("sums", ("bern",)),
            ("long", (("bern",), "low")), ("long", (("bern",), "all")), ("wide", ("bern",))))
        self.assertEqual(lot_of(FULL, FULL_TEXTS, "town", ("towns", 0)), (("town", ("towns", 0)),))
        self.assertEqual(lot_of(FULL, FULL_TEXTS, "paid", ("bills", 8)),
                         (("town", ("towns", 0)), ("paid", ("bills", 8))))

    def test_each_row_of_a_lot_has_no_more_with_it(self):
        for table, row in lot_of(SMALL, SMALL_TEXTS, "gr", ("1",)):
            self.assertLessEqual(set(lot_of(SMALL, SMALL_TEXTS, table, row)),
                                 set(lot_of(SMALL, SMALL_TEXTS, "gr", ("1",))))

    def test_against_the_oracle(self):
        for program, texts in [(FULL, FULL_TEXTS), (SMALL, SMALL_TEXTS), *drawn_programs(60)]:
            things = Things(program, texts)
            for name, rows in things.tables.rows.items():
                for row in rows:
                    self.assertEqual(lot_of(program, texts, name, row), things.lot(name, row), (program, name, row))

    def test_no_row(self):
        for row in [*ODD_KINDS, None, 0, "", "s", s(2), s(7), s(-1), s(True), s("0"), ["s", 0], ("s", 0, 0), q(0)]:
            for table in ["t", "w", "l"]:
                with self.assertRaises(NoRow) as caught:
                    lot_of(SMALL, SMALL_TEXTS, table, row)
                self.assertEqual(list(vars(caught.exception)), ["row"])
                self.assertIs(caught.exception.row, row)
        for row in [("2",), ("1", "1"), (1,), "1", ["1"], (("1",),), (True,)]:
            self.assertRaises(NoRow, lot_of, SMALL, SMALL_TEXTS, "gr", row)
        self.assertRaises(NoRow, lot_of, SMALL, SMALL_TEXTS, "l", (s(0), "c"))
        self.assertRaises(NoRow, lot_of, SMALL, SMALL_TEXTS, "l", ((s(0), "a"), "a"))

    def test_by_names_and_again(self):
        wanted = lot_of(SMALL, SMALL_TEXTS, "gr", ("1",))
        self.assertEqual(lot_of(row=("1",), table="gr", texts=SMALL_TEXTS, program=SMALL), wanted)
        self.assertEqual(sources_of(lot=wanted, program=SMALL), sources_of(SMALL, wanted))
        only = sources_of(SMALL, wanted)
        self.assertEqual(run_only(only=only, texts=SMALL_TEXTS, program=SMALL), run_only(SMALL, SMALL_TEXTS, only))


def drawn_programs(many):
    return [(drawn.program, drawn.texts) for drawn in map(Drawn, range(many))]


def alone(program, texts, lot):
    """The rows of all tables of a lot's source rows alone."""
    told = run_only(program, texts, sources_of(program, lot))
    return tuple((name, row) for name, rows, _ in told for row, _, _ in rows)


class Sources(unittest.TestCase):

    def test_rows_of_tables_that_are_of_a_source_each_once_rising(self):
        lot = lot_of(FULL, FULL_TEXTS, "wide", ("bern",))
        self.assertEqual(sources_of(FULL, lot), (("bills", 0), ("bills", 3), ("towns", 0)))
        self.assertEqual(sources_of(FULL, ()), ())
        tables = (OF, ("u", ("of", "s"), (), ()), ("l", ("long", "t", ("a",), "n", "v"), (), ()),
                  ("k", ("of", "q"), (), ()))
        lot = (("t", s(10)), ("t", s(2)), ("u", s(10)), ("u", s(2)), ("l", (s(2), "a")), ("k", q(3)))
        self.assertEqual(sources_of((SOURCES, tables), lot), (q(3), s(2), s(10)))
        self.assertEqual(sources_of((SOURCES, tables), (("l", (s(2), "a")),)), ())


class RunOnly(unittest.TestCase):

    def test_rows_that_are_not_there_are_not_lost_and_numbers_stay(self):
        tables = (OF, ("gr", ("group", "t", ("a",), (("m", "count", None),)), (), ()))
        program, texts = (SOURCES, tables), (("q", "odd\nd=1\n"), ("s", "x,1,\nodd\nx,2,\ny,3,\nfew\n"))
        self.assertEqual(run_only(program, texts, (s(2), s(3), s(4))), (
            ("t", ((s(2), ("x", "2", None), ()), (s(3), ("y", "3", None), ())), (("s", s(4), "few"),)),
            ("gr", ((("x",), ("x", 1), ()), (("y",), ("y", 1), ())), ())))
        self.assertEqual(run_only(program, texts, ()), (("t", (), ()), ("gr", (), ())))

    def test_of_all_rows_as_run(self):
        for program, texts in [(FULL, FULL_TEXTS), (SMALL, SMALL_TEXTS), *drawn_programs(20)]:
            only = tuple(sorted((name, number) for name, text in texts for number in range(len(text.split("\n")))))
            self.assertEqual(run_only(program, texts, only), run(program, texts))

    def test_of_some_rows_as_run_of_these_rows(self):
        text = "x,1,\ny,,\nx,2,\n,,\nz,3,\n"
        steps = (("u", "unlike", ("a",)), ("f", "fill", "b", ()))
        program = ((("s", ABC),), (("t", ("of", "s"), steps, (("u", "f"),)),))
        for mask in range(32):
            numbers = [number for number in range(5) if mask & (1 << number)]
            rows = "".join(text.split("\n")[number] + "\n" for number in numbers)
            (_, wanted, _), = run(program, (("s", rows),))
            (_, told, lost), = run_only(program, (("s", text),), tuple(s(number) for number in numbers))
            self.assertEqual([row for row, _, _ in told], [s(number) for number in numbers])
            self.assertEqual([row[1:] for row in told], [row[1:] for row in wanted])
            self.assertEqual(lost, ())

    def test_of_a_lot_just_the_lots_rows_with_their_worths_and_marks(self):
        for program, texts in [(FULL, FULL_TEXTS), (SMALL, SMALL_TEXTS), *drawn_programs(80)]:
            whole = {name: {row[0]: row for row in rows} for name, rows, _ in run(program, texts)}
            for table, rows in whole.items():
                for row in rows:
                    lot = lot_of(program, texts, table, row)
                    self.assertIn((table, row), lot)
                    told = run_only(program, texts, sources_of(program, lot))
                    self.assertEqual(tuple((name, one[0]) for name, ones, _ in told for one in ones), lot)
                    for name, ones, _ in told:
                        for one in ones:
                            self.assertEqual(one, whole[name][one[0]])

    def test_what_is_handed_in_stays(self):
        only = (s(0), s(1))
        run_only(SMALL, SMALL_TEXTS, only)
        self.assertEqual(only, (s(0), s(1)))


class Refused(unittest.TestCase):

    STEPS = (("z", "put", "a", "x"), ("b", "given", "a"))
    PROGRAM = (SOURCES, (("t", ("of", "s"), STEPS, ()),))

    def test_clashes_ahead_of_all_else(self):
        texts = (("q", ""), ("s", "x,1,\n"))
        for function, arguments in [(lot_of, ("t", s(0))), (lot_of, ("t", s(9))), (lot_of, ("t", None)),
                                    (run_only, ((s(0),),)), (run_only, ((),))]:
            with self.assertRaises(Clash) as caught:
                function(self.PROGRAM, texts, *arguments)
            self.assertEqual(vars(caught.exception), {"table": "t", "step": "z", "other": "b", "what": "a"})

    def test_sources_of_is_not_refused(self):
        self.assertEqual(sources_of(self.PROGRAM, (("t", s(0)),)), (s(0),))


if __name__ == "__main__":
    unittest.main()
