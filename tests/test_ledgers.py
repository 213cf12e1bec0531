import unittest

from cleanedtables.errors import Clash
from cleanedtables.ledgers import ends_of, ledger
from cleanedtables.lines import lines_of
from cleanedtables.running import run
from tests.oracle import Tables
from tests.samples import FULL, FULL_TEXTS, Drawn
from tests.test_asking import ABC, SMALL, SMALL_TEXTS, s

SOURCES = (("s", ABC), ("q", ("named", ";", ("d", "e"))), ("p", ("places", (2, 2), ("f", "g"))))
OF = ("t", ("of", "s"), (), ())
KEYS = ("k", ("of", "q"), (), ())


def q(number):
    return ("q", number)


def made_of(table):
    origin = table[1]
    return {"of": (), "join": origin[1:3]}.get(origin[0], origin[1:2])


def fates_by_hand(program, tables, called):
    """The fates of a row of a source that is not odd, by the oracle's tables."""
    fates = set()

    def follow(name, row):
        marks = tables.states[name][-1][row][1]
        later = [table for table in program[1] if name in made_of(table)]
        if marks:
            fates.add(("marked", name, marks))
        elif not later:
            fates.add(("end", name))
        for table in later:
            for one, other, reason in tables.lost[table[0]]:
                if (one, other) == (name, row):
                    fates.add(("lost", table[0], reason))
            for other, parts in tables.parts[table[0]].items():
                if (name, row) in parts:
                    follow(table[0], other)

    for table in program[1]:
        if table[1] == ("of", called[0]):
            follow(table[0], called)
    return tuple(sorted(fates))


def by_oracle(program, texts):
    tables = Tables(program, texts)
    told = []
    for source, _ in program[0]:
        for number, line in tables.lines[source].items():
            odd = (("odd", line[3]),)
            told.append(((source, number), odd if line[3] else fates_by_hand(program, tables, (source, number))))
    return tuple(told)


class Ledger(unittest.TestCase):

    def fates(self, tables, rows, *wanted, others="", places=""):
        """Check the fates of the rows of s, in order."""
        program, texts = (SOURCES, tables), (("p", places), ("q", others), ("s", rows))
        told = ledger(program, texts)
        self.assertEqual(told, by_oracle(program, texts))
        self.assertEqual([row for row, _ in told if row[0] == "s"], [s(number) for number in range(len(wanted))])
        self.assertEqual([fates for row, fates in told if row[0] == "s"], list(wanted))
        return dict(told)

    def test_each_row_of_each_source_in_the_programs_order(self):
        program = (SOURCES, (KEYS,))
        texts = (("p", "ab\nabcde\n"), ("q", "d=1\nx=1\n\n"), ("s", "1,2,3\n"))
        self.assertEqual(ledger(program, texts), (
            (s(0), ()),
            (q(0), (("end", "k"),)), (q(1), (("odd", "name"),)), (q(2), (("end", "k"),)),
            (("p", 0), ()), (("p", 1), (("odd", "many"),))))
        self.assertEqual(ledger(program, (("p", ""), ("q", ""), ("s", ""))), ())

    def test_odd_rows_whether_a_table_is_of_their_source_or_not(self):
        texts = (("p", "abcde\n"), ("q", "d\nx=1\nd=1;d=2\n"), ("s", '"\n"a"b,c,d\na\na,b,c,d\n'))
        odd = ((s(0), (("odd", "quote"),)), (s(1), (("odd", "quote"),)), (s(2), (("odd", "few"),)),
               (s(3), (("odd", "many"),)), (q(0), (("odd", "form"),)), (q(1), (("odd", "name"),)),
               (q(2), (("odd", "twice"),)), (("p", 0), (("odd", "many"),)))
        for source in "sqp":
            self.assertEqual(ledger((SOURCES, (("t", ("of", source), (), ()),)), texts), odd)
        tables = (OF, ("u", ("of", "s"), (), ()), KEYS, ("j", ("join", "t", "k", (("a", "d"),)), (), ()))
        self.assertEqual(ledger((SOURCES, tables), texts), odd)

    def test_marked_and_end(self):
        steps = (("g", "given", "b"), ("a", "given", "c"))
        self.fates((("t", ("of", "s"), steps, ()),), "x,1,1\nx,,1\nx,,\nodd\n",
                   (("end", "t"),), (("marked", "t", ("g",)),), (("marked", "t", ("a", "g")),), (("odd", "few"),))

    def test_no_table_of_the_source(self):
        self.fates((KEYS,), "x,1,1\nodd\n", (), (("odd", "few"),))

    def test_several_tables_of_a_source(self):
        tables = (("u", ("of", "s"), (("g", "given", "b"),), ()), OF, ("m", ("of", "s"), (("h", "given", "c"),), ()))
        self.fates(tables, "x,,\nx,1,1\n",
                   (("end", "t"), ("marked", "m", ("h",)), ("marked", "u", ("g",))),
                   (("end", "m"), ("end", "t"), ("end", "u")))

    def test_rows_of_a_table_of_which_others_are_made_have_no_end_there(self):
        tables = (OF, ("gr", ("group", "t", ("a",), (("n", "count", None),)), (("w", "within", "n", 1, 1),), ()))
        self.fates(tables, "x,,\ny,,\nx,,\n",
                   (("marked", "gr", ("w",)),), (("end", "gr"),), (("marked", "gr", ("w",)),))

    def test_marked_rows_come_to_no_row_and_are_not_lost(self):
        tables = (("t", ("of", "s"), (("g", "given", "b"),), ()), KEYS,
                  ("j", ("join", "t", "k", (("a", "d"),)), (), ()))
        self.fates(tables, "x,,\n", (("marked", "t", ("g",)),), others="d=x\n")

    def test_lone_rows_of_both_tables_of_a_join(self):
        tables = (OF, KEYS, ("j", ("join", "t", "k", (("a", "d"),)), (("g", "given", "b"),), ()))
        told = self.fates(tables, "x,1,\ny,1,\n,1,\nz,,\n",
                          (("end", "j"),), (("lost", "j", "lone"),), (("lost", "j", "lone"),),
                          (("marked", "j", ("g",)),), others="d=x\nd=w\nd=z\n")
        self.assertEqual([told[q(n)] for n in range(3)], [
            (("end", "j"),), (("lost", "j", "lone"),), (("marked", "j", ("g",)),)])

    def test_fates_rise_each_once(self):
        tables = (OF, KEYS, ("j", ("join", "t", "k", (("a", "d"),)), (("g", "given", "e"),), ()),
                  ("l", ("long", "t", ("a", "b"), "n", "v"), (("h", "given", "v"),), ()))
        self.fates(tables, "x,1,\nx,,\ny,,\n",
                   (("end", "j"), ("end", "l"), ("marked", "j", ("g",))),
                   (("end", "j"), ("end", "l"), ("marked", "j", ("g",)), ("marked", "l", ("h",))),
                   (("end", "l"), ("lost", "j", "lone"), ("marked", "l", ("h",))),
                   others="d=x;e=1\nd=x;e=2\nd=x\nd=x\n")

    def test_rows_of_wide_come_of_their_first_rows_alone(self):
        wide = ("w", ("wide", "t", ("c",), "a", "b", (("x", "xx"), ("y", "yy"))), (("g", "given", "xx"),), ())
        self.fates((OF, wide), "x,1,k\ny,2,k\nx,3,k\nz,4,k\n,5,k\ny,6,\nx,,m\n",
                   (("end", "w"),), (("end", "w"),), (("lost", "w", "twice"),), (("lost", "w", "strange"),),
                   (("lost", "w", "strange"),), (("marked", "w", ("g",)),), (("marked", "w", ("g",)),))

    def test_lost_in_one_table_and_at_the_end_of_another(self):
        tables = (OF, KEYS, ("j", ("join", "k", "t", (("d", "a"),)), (), ()),
                  ("w", ("wide", "t", (), "a", "b", (("x", "xx"),)), (), ()),
                  ("gr", ("group", "t", (), (("n", "count", None),)), (), ()))
        self.fates(tables, "x,1,\nx,2,\ny,3,\n",
                   (("end", "gr"), ("end", "j"), ("end", "w")),
                   (("end", "gr"), ("end", "j"), ("lost", "w", "twice")),
                   (("end", "gr"), ("lost", "j", "lone"), ("lost", "w", "strange")), others="d=x\n")

    def test_rows_that_only_give_worths_sideways_have_no_fate_by_that(self):
        tables = (KEYS, ("t", ("of", "s"), (("l", "look", "a", "k", "d", "e", "x"), ("f", "fill", "b", ())),
                         (("l", "f"),)))
        told = self.fates(tables, "1,7,\n1,,\n2,,\n", (("end", "t"),), (("end", "t"),), (("marked", "t", ("l",)),),
                          others="d=1;e=p\n")
        # A table in which another one looks is made of none, and has none made of it.
        self.assertEqual(told[q(0)], (("end", "k"),))

    def test_all_the_way_through_five_origins(self):
        told = dict(ledger(FULL, FULL_TEXTS))
        self.assertEqual(told[("bills", 0)], (("end", "wide"),))
        self.assertEqual(told[("bills", 1)], (("lost", "both", "lone"),))
        self.assertEqual(told[("bills", 2)], (("marked", "paid", ("look", "unlike")),))
        self.assertEqual(told[("bills", 4)], (("marked", "paid", ("before", "given", "readday")),))
        self.assertEqual(told[("towns", 0)], (("end", "wide"),))
        self.assertEqual(told[("notes", 0)], ())
        self.assertEqual(told[("notes", 1)], (("odd", "form"),))

    def test_against_the_oracle(self):
        kinds = set()
        for program, texts in [(FULL, FULL_TEXTS), (SMALL, SMALL_TEXTS), *drawn_programs(200)]:
            told = ledger(program, texts)
            self.assertEqual(told, by_oracle(program, texts), program)
            kinds |= {(fate[0], fate[-1] if fate[0] == "lost" else "") for _, fates in told for fate in fates}
        self.assertEqual(kinds, {("odd", ""), ("end", ""), ("marked", ""), ("lost", "lone"), ("lost", "strange"),
                                 ("lost", "twice")})

    def test_by_names_and_again(self):
        wanted = ledger(FULL, FULL_TEXTS)
        self.assertEqual(ledger(texts=FULL_TEXTS, program=FULL), wanted)
        self.assertIs(type(wanted), tuple)
        for row, fates in wanted:
            self.assertEqual([type(row), type(fates)], [tuple, tuple])
            self.assertTrue(all(type(fate) is tuple for fate in fates))
            self.assertEqual(list(fates), sorted(set(fates)))


class NothingIsLostUntold(unittest.TestCase):

    def test_each_row_is_odd_or_in_each_table_of_its_source(self):
        for program, texts in [(FULL, FULL_TEXTS), *drawn_programs(60)]:
            told = dict(ledger(program, texts))
            tables = {name: {row: marks for row, _, marks in rows} for name, rows, _ in run(program, texts)}
            for source, shape in program[0]:
                lines = lines_of(shape, dict(texts)[source])
                self.assertEqual([row for row in told if row[0] == source],
                                 [(source, number) for number in range(len(lines))])
                for number, line in enumerate(lines):
                    fates = told[(source, number)]
                    of = [table[0] for table in program[1] if table[1] == ("of", source)]
                    if line[3]:
                        self.assertEqual(fates, (("odd", line[3]),))
                        self.assertFalse(any((source, number) in tables[name] for name in of))
                        continue
                    self.assertEqual(bool(fates), bool(of))
                    for name in of:
                        marks = tables[name][(source, number)]
                        self.assertEqual(("marked", name, marks) in fates, bool(marks))

    def test_each_row_that_stands_comes_to_a_row_or_is_lost(self):
        for program, texts in [(FULL, FULL_TEXTS), *drawn_programs(60)]:
            oracle = Tables(program, texts)
            made = run(program, texts)
            for name, rows, _ in made:
                for table in program[1]:
                    if name not in made_of(table):
                        continue
                    lost = [row for one, row, _ in dict((n, l) for n, _, l in made)[table[0]] if one == name]
                    parts = [part for parts in oracle.parts[table[0]].values() for part in parts]
                    for row, _, marks in rows:
                        if not marks:
                            self.assertNotEqual(row in lost, (name, row) in parts or table[1][0] in ("group", "long"))
                        else:
                            self.assertNotIn(row, lost)


def drawn_programs(many):
    return [(drawn.program, drawn.texts) for drawn in map(Drawn, range(many))]


class Ends(unittest.TestCase):

    def test_tables_of_which_none_is_made_in_order(self):
        self.assertEqual(ends_of(FULL), ("wide",))
        self.assertEqual(ends_of(SMALL), ("k", "o", "gr", "w", "l"))
        self.assertEqual(ends_of((SOURCES, (OF,))), ("t",))
        self.assertEqual(ends_of((SOURCES, (KEYS, OF))), ("k", "t"))
        join = ("j", ("join", "t", "k", (("a", "d"),)), (), ())
        self.assertEqual(ends_of((SOURCES, (KEYS, OF, join))), ("j",))
        self.assertEqual(ends_of(program=(SOURCES, (KEYS, OF, join))), ("j",))

    def test_a_table_in_which_others_look_is_an_end(self):
        look = ("t", ("of", "s"), (("l", "look", "a", "k", "d", "e", "x"),), ())
        self.assertEqual(ends_of((SOURCES, (KEYS, look))), ("k", "t"))

    def test_of_programs_with_clashes_too(self):
        steps = (("z", "put", "a", "x"), ("b", "given", "a"))
        self.assertEqual(ends_of((SOURCES, (("t", ("of", "s"), steps, ()),))), ("t",))


class Refused(unittest.TestCase):

    def test_clashes(self):
        steps = (("z", "put", "a", "x"), ("b", "given", "a"))
        for texts in [(("p", ""), ("q", ""), ("s", "x,1,\n")), (("p", ""), ("q", ""), ("s", ""))]:
            with self.assertRaises(Clash) as caught:
                ledger((SOURCES, (OF, ("u", ("of", "s"), steps, ()))), texts)
            self.assertEqual(vars(caught.exception), {"table": "u", "step": "z", "other": "b", "what": "a"})


if __name__ == "__main__":
    unittest.main()
