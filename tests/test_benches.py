import random
import unittest

from cleanedtables.asking import answer
from cleanedtables.benches import Bench
from cleanedtables.cells import add_row, put_cell
from cleanedtables.errors import Clash, NoCell, NoDeed, NoFit, NoRow, NoSource, NoTable, NoThing
from cleanedtables.lines import lines_of
from cleanedtables.lots import run_only
from cleanedtables.running import run
from tests.oracle_bench import Benched
from tests.samples import FULL, FULL_TEXTS, Drawn
from tests.test_asking import ABC, SMALL, SMALL_TEXTS, s
from tests.things import ODD_KINDS, Agreeing, Stubborn

SOURCES = (("s", ABC), ("q", ("named", ";", ("d", "e"))), ("p", ("places", (2, 3), ("f", "g"))))
PROGRAM = (SOURCES, (("t", ("of", "s"), (("g", "given", "b"),), ()), ("k", ("of", "q"), (), ()),
                     ("gr", ("group", "t", ("a",), (("n", "count", None),)), (), ())))
TEXTS = (("p", "ab\ncdefg\nabcdef"), ("q", "d=1\n\nd=2;e=3\nno\n"), ("s", 'x,1,\n"p,q",2,3\nodd\ny,,'))


def q(number):
    return ("q", number)


def bench(program=PROGRAM, texts=TEXTS):
    return Bench(program, texts)


class Puts(unittest.TestCase):

    def test_as_put_cell(self):
        told = bench()
        self.assertIsNone(told.put("s", 1, "a", "z"))
        self.assertEqual(told.text_of("s"), "x,1,\nz,2,3\nodd\ny,,")
        told.put("s", 3, "c", 'a"b')
        self.assertEqual(told.text_of("s"), 'x,1,\nz,2,3\nodd\ny,,"a""b"')
        told.put("s", 0, "b", None)
        self.assertEqual(told.text_of("s"), 'x,,\nz,2,3\nodd\ny,,"a""b"')
        told.put("q", 2, "e", "w")
        self.assertEqual(told.text_of("q"), "d=1\n\nd=2;e=w\nno\n")
        told.put("p", 0, "g", "z")
        self.assertEqual(told.text_of("p"), "abz  \ncdefg\nabcdef")
        self.assertEqual(len(told), 11)

    def test_all_other_signs_stay(self):
        rng = random.Random(4)
        for seed in range(60):
            drawn = Drawn(seed)
            told = Bench(drawn.program, drawn.texts)
            for name, shape in drawn.sources:
                text = dict(drawn.texts)[name]
                for _ in range(8):
                    number = rng.randrange(len(lines_of(shape, text)))
                    column, worth = rng.choice(shape[-1]), rng.choice([None, "a", "x b", 'a"'[:2], "1"])
                    try:
                        text = put_cell(shape, text, number, column, worth)
                    except NoCell as wanted:
                        with self.assertRaises(NoCell) as caught:
                            told.put(name, number, column, worth)
                        self.assertEqual(vars(caught.exception), vars(wanted))
                    else:
                        told.put(name, number, column, worth)
                    self.assertEqual(told.text_of(name), text)


class Adds(unittest.TestCase):

    def test_as_add_row_and_its_number(self):
        told = bench()
        self.assertEqual(told.add("s", ("a,b", None, "c")), 4)
        self.assertEqual(told.text_of("s"), 'x,1,\n"p,q",2,3\nodd\ny,,\n"a,b",,c\n')
        self.assertEqual(told.add("s", (None, None, None)), 5)
        self.assertEqual(told.text_of("s"), 'x,1,\n"p,q",2,3\nodd\ny,,\n"a,b",,c\n,,\n')
        self.assertEqual(told.add("q", (None, None)), 4)
        self.assertEqual(told.text_of("q"), "d=1\n\nd=2;e=3\nno\n\n")
        self.assertEqual(told.add("p", ("ab", "c")), 3)
        self.assertEqual(told.text_of("p"), "ab\ncdefg\nabcdef\nabc  \n")

    def test_to_an_empty_text(self):
        told = bench(texts=(("p", ""), ("q", ""), ("s", "")))
        self.assertEqual([told.add("q", (None, None)), told.add("q", ("1", None)), told.add("s", ("x", "y", "z"))],
                         [0, 1, 0])
        self.assertEqual([told.text_of(source) for source in "sqp"], ["x,y,z\n", "\nd=1\n", ""])
        self.assertEqual(told.answer(("source", "q")), (0, 1))

    def test_numbers_are_given_once(self):
        told = bench()
        told.drop("s", 3)
        self.assertEqual(told.add("s", ("a", None, None)), 4)
        told.drop("s", 4)
        self.assertEqual(told.add("s", ("b", None, None)), 5)
        for number in [0, 1, 2, 5]:
            told.drop("s", number)
        self.assertEqual(told.text_of("s"), "")
        self.assertEqual(told.add("s", ("c", None, None)), 6)
        self.assertEqual(told.answer(("source", "s")), (6,))
        self.assertRaises(NoRow, told.put, "s", 5, "a", "x")

    def test_numbers_by_the_deeds_that_stand(self):
        told = bench()
        self.assertEqual(told.add("s", ("a", None, None)), 4)
        told.undo()
        self.assertEqual(told.add("s", ("b", None, None)), 4)
        told.drop("s", 4)
        told.undo()
        told.undo()
        told.redo()
        self.assertEqual(told.add("s", ("c", None, None)), 5)
        told.undo()
        told.undo()
        told.drop("s", 0)
        self.assertEqual(told.add("s", ("d", None, None)), 4)
        self.assertEqual(told.answer(("line", "s", 4)), ("d", None, None))


class Drops(unittest.TestCase):

    def test_signs_and_line_feeds(self):
        told = bench()
        self.assertIsNone(told.drop("s", 1))
        self.assertEqual(told.text_of("s"), "x,1,\nodd\ny,,")
        told.drop("s", 3)
        self.assertEqual(told.text_of("s"), "x,1,\nodd\n")
        told.drop("s", 0)
        self.assertEqual(told.text_of("s"), "odd\n")
        told.drop("s", 2)
        self.assertEqual(told.text_of("s"), "")
        told.drop("q", 1)
        self.assertEqual(told.text_of("q"), "d=1\nd=2;e=3\nno\n")
        self.assertEqual(len(told), 6)

    def test_the_last_row_without_a_line_feed_and_those_ahead(self):
        told = bench()
        told.drop("p", 2)
        told.drop("p", 0)
        self.assertEqual(told.text_of("p"), "cdefg\n")
        told = bench()
        told.drop("p", 0)
        told.drop("p", 1)
        self.assertEqual(told.text_of("p"), "abcdef")
        self.assertEqual(told.add("p", ("a", None)), 3)
        self.assertEqual(told.text_of("p"), "abcdef\na    \n")

    def test_others_keep_their_numbers(self):
        told = bench()
        told.drop("s", 0)
        told.put("s", 1, "a", "z")
        self.assertEqual(told.text_of("s"), "z,2,3\nodd\ny,,")
        self.assertEqual(told.answer(("source", "s")), (1, 3))
        self.assertEqual(told.answer(("line", "s", 1)), ("z", "2", "3"))
        self.assertIsNone(told.answer(("line", "s", 2)))
        self.assertEqual(told.rows_of("t"), ((s(1), ("z", "2", "3"), ()), (s(3), ("y", None, None), ("g",))))


class RefusedDeeds(unittest.TestCase):

    def refused(self, told, error, values, deed, *arguments):
        state = (str(told), len(told))
        with self.assertRaises(error) as caught:
            getattr(told, deed)(*arguments)
        self.assertEqual(list(vars(caught.exception)), list(values))
        for name, value in values.items():
            self.assertIs(vars(caught.exception)[name], value)
        with self.assertRaises(error) as caught:
            told.together(((deed, *arguments),))
        self.assertEqual(list(vars(caught.exception)), list(values))
        self.assertEqual((str(told), len(told)), state)

    def test_no_source(self):
        told = bench()
        for source in [*ODD_KINDS, None, 0, "", "t", "S", "ss", ("s",), ["s"]]:
            self.refused(told, NoSource, {"source": source}, "put", source, 99, None, "x")
            self.refused(told, NoSource, {"source": source}, "add", source, ("x", "y"))
            self.refused(told, NoSource, {"source": source}, "drop", source, None)
            with self.assertRaises(NoSource) as caught:
                told.text_of(source)
            self.assertIs(caught.exception.source, source)

    def test_no_row(self):
        told = bench()
        told.drop("s", 0)
        for number in [*ODD_KINDS, None, "", "1", -1, 0, 4, 99, 10 ** 9, (1,), s(1)]:
            self.refused(told, NoRow, {"row": number}, "put", "s", number, None, "x")
            self.refused(told, NoRow, {"row": number}, "drop", "s", number)
        told.add("s", ("a", None, None))
        told.undo()
        self.refused(told, NoRow, {"row": 4}, "drop", "s", 4)

    def test_no_cell(self):
        told = bench()
        told.drop("s", 0)
        for column in [*ODD_KINDS, None, 0, "", "d", "A", "ab", ("a",)]:
            self.refused(told, NoCell, {"number": 1, "column": column}, "put", "s", 1, column, "x")
        # The row is odd; told is its own number, not its place.
        self.refused(told, NoCell, {"number": 2, "column": "a"}, "put", "s", 2, "a", "x")
        told.drop("q", 0)
        # Of "named" a column that doesn't stand.
        self.refused(told, NoCell, {"number": 1, "column": "d"}, "put", "q", 1, "d", ";")
        self.refused(told, NoCell, {"number": 3, "column": "d"}, "put", "q", 3, "d", "1")

    def test_no_fit(self):
        told = bench()
        told.drop("p", 0)
        self.refused(told, NoFit, {"worth": "abc"}, "put", "p", 1, "f", "abc")
        self.refused(told, NoCell, {"number": 2, "column": "f"}, "put", "p", 2, "f", "abc")
        self.refused(told, NoFit, {"worth": "a;b"}, "put", "q", 2, "d", "a;b")
        self.refused(told, NoFit, {"worth": "abc"}, "add", "p", ("abc", "abcd"))
        self.refused(told, NoFit, {"worth": "abcd"}, "add", "p", ("ab", "abcd"))
        self.refused(told, NoFit, {"worth": ";"}, "add", "q", (None, ";"))

    def test_behind_a_refusal_nothing_is_otherwise(self):
        told = bench()
        told.put("s", 0, "a", "z")
        told.rows_of("gr")
        told.made()
        told.undo()
        other = bench()
        for deed in [("put", "s", 9, "a", "x"), ("put", "s", 0, "z", "x"), ("drop", "p", 9),
                     ("add", "p", ("abc", "a"))]:
            self.assertRaises((NoRow, NoCell, NoFit), getattr(told, deed[0]), *deed[1:])
        self.assertEqual(told, other)
        # What undo took back can still be done again.
        self.assertIsNone(told.redo())
        self.assertEqual(told.text_of("s"), put_cell(ABC, dict(TEXTS)["s"], 0, "a", "z"))
        told.rows_of("gr")
        self.assertEqual(told.made(), ())
        self.assertEqual(told.log(), ())


class Asked(unittest.TestCase):

    def test_answer_and_rows_of(self):
        told = Bench(SMALL, SMALL_TEXTS)
        for (name, rows, _), table in zip(run(SMALL, SMALL_TEXTS), SMALL[1]):
            self.assertEqual(told.rows_of(name), rows)
            self.assertEqual(told.answer(("rows", name)), tuple(row for row, _, _ in rows))
            for row, worths, marks in rows:
                self.assertEqual(told.answer(("row", name, len(table[2]), row)), (worths, marks))

    def test_what_is_no_thing(self):
        told = bench()
        told.drop("s", 0)
        for thing in [*ODD_KINDS, None, "rows", ("rows", "s"), ("row", "t", 2, s(1)), ("row", "t", 0, s(0)),
                      ("line", "s", 0), ("line", "s", 4), ("line", "s", True), ("parts", "t", s(1)), ["rows", "t"],
                      ("parts", "gr", ("x",)), ("above", "t", s(2)), ("keyed", "t", "b", "")]:
            with self.assertRaises(NoThing) as caught:
                told.answer(thing)
            self.assertIs(caught.exception.thing, thing)
        self.assertEqual(told.made(), ())
        self.assertEqual(told.answer(("parts", "gr", ("p,q",))), (s(1),))

    def test_what_is_no_table(self):
        told = bench()
        for name in [*ODD_KINDS, None, 0, "", "s", "T", "tt", ("t",), ["t"]]:
            with self.assertRaises(NoTable) as caught:
                told.rows_of(name)
            self.assertIs(caught.exception.table, name)
            self.assertEqual(list(vars(caught.exception)), ["table"])

    def test_by_names(self):
        told = Bench(texts=TEXTS, program=PROGRAM)
        told.put(worth="z", column="a", number=0, source="s")
        self.assertEqual(told.add(worths=("1", None, None), source="s"), 4)
        told.drop(number=3, source="s")
        self.assertEqual(told.text_of(source="s"), 'z,1,\n"p,q",2,3\nodd\n1,,\n')
        self.assertEqual(told.answer(thing=("source", "s")), (0, 1, 4))
        self.assertEqual(len(told.rows_of(name="t")), 3)
        self.assertEqual(told.together(look=None, deeds=(("drop", "s", 4),)), (None,))

    def test_kinds_of_what_is_told(self):
        told = bench()
        self.assertIs(type(told.add("s", (None, None, None))), int)
        self.assertIs(type(told.rows_of("t")), tuple)
        self.assertIs(type(told.made()), tuple)
        self.assertIs(type(told.log()), tuple)
        self.assertIs(type(told.together(())), tuple)
        self.assertIs(told.is_open(), False)
        self.assertIsNone(told.undo())
        self.assertIsNone(told.redo())


class UndoneAndDoneAgain(unittest.TestCase):

    def test_each_deed(self):
        told = bench()
        states = [str(told)]
        for deed in [("put", "s", 0, "a", "z"), ("add", "q", ("1", None)), ("drop", "s", 2), ("put", "q", 4, "d", "7"),
                     ("drop", "q", 4), ("add", "q", (None, None))]:
            getattr(told, deed[0])(*deed[1:])
            states.append(str(told))
        for state in reversed(states[:-1]):
            told.undo()
            self.assertEqual(str(told), state)
        self.assertRaises(NoDeed, told.undo)
        self.assertEqual(told, bench())
        for state in states[1:]:
            told.redo()
            self.assertEqual(str(told), state)
        self.assertRaises(NoDeed, told.redo)

    def test_no_deed(self):
        told = bench()
        for deed in [told.undo, told.redo]:
            with self.assertRaises(NoDeed) as caught:
                deed()
            self.assertEqual(vars(caught.exception), {})
            self.assertEqual(caught.exception.args, ())
        self.assertEqual(told, bench())

    def test_as_long_as_no_deed_came_between(self):
        for deed in [("put", "s", 1, "a", "w"), ("add", "s", (None, None, None)), ("drop", "s", 1)]:
            told = bench()
            told.put("s", 0, "a", "y")
            told.put("s", 0, "a", "z")
            told.undo()
            getattr(told, deed[0])(*deed[1:])
            self.assertRaises(NoDeed, told.redo)
            told.undo()
            told.redo()
            self.assertRaises(NoDeed, told.redo)
            told.undo()
            told.undo()
            self.assertEqual(told, bench())
            self.assertRaises(NoDeed, told.undo)

    def test_asks_come_between_without_harm(self):
        told = bench()
        told.put("s", 0, "a", "y")
        told.undo()
        told.rows_of("gr")
        told.made()
        str(told), len(told), told.text_of("s"), told == bench(), told.log(), told.is_open()
        told.redo()
        self.assertEqual(told.answer(("line", "s", 0)), ("y", "1", None))


class Equal(unittest.TestCase):

    def test_programs_texts_numbers_and_numbers_given(self):
        self.assertEqual(bench(), bench())
        other = (SOURCES, PROGRAM[1][:2])
        self.assertNotEqual(bench(), bench(program=other))
        self.assertNotEqual(bench(), bench(texts=(*TEXTS[:2], ("s", dict(TEXTS)["s"] + "\n"))))
        # The same text, but another row is there.
        one, two = bench(texts=(*TEXTS[:2], ("s", ",,\n,,\n"))), bench(texts=(*TEXTS[:2], ("s", ",,\n,,\n")))
        one.drop("s", 0)
        two.drop("s", 1)
        self.assertEqual(str(one), str(two))
        self.assertNotEqual(one, two)
        two.undo()
        two.drop("s", 0)
        self.assertEqual(one, two)
        # The same rows, but one number more was given.
        one.add("s", ("x", None, None))
        one.drop("s", 2)
        self.assertEqual(str(one), str(two))
        self.assertNotEqual(one, two)
        one.undo()
        one.undo()
        self.assertEqual(one, two)

    def test_not_by_what_was_asked_or_undone(self):
        one, two = bench(), bench()
        one.rows_of("gr")
        one.put("s", 0, "a", "z")
        one.undo()
        one.together(())
        self.assertTrue(one == two)
        self.assertFalse(one != two)
        self.assertEqual(one, one)

    def test_to_nothing_of_another_kind(self):
        told = bench()
        for thing in [*[odd for odd in ODD_KINDS if not isinstance(odd, Agreeing)], None, 0, "", str(told), PROGRAM]:
            self.assertIs(told.__eq__(thing), False)
        self.assertIs(told == Agreeing(), False)
        self.assertIs(told == Stubborn(), False)
        self.assertIs(told != Agreeing(), True)


class LenAndStr(unittest.TestCase):

    def test_len_with_odd_rows(self):
        told = bench()
        self.assertEqual(len(told), 11)
        told.drop("s", 2)
        self.assertEqual(len(told), 10)
        told.add("p", (None, None))
        self.assertEqual(len(told), 11)
        told.undo()
        told.undo()
        self.assertEqual(len(told), 11)
        self.assertEqual(len(bench(texts=(("p", ""), ("q", ""), ("s", "")))), 0)

    def test_str(self):
        self.assertEqual(str(bench()), (
            '= s\nx,1,\n"p,q",2,3\nodd\ny,,\n= q\nd=1\n\nd=2;e=3\nno\n= p\nab\ncdefg\nabcdef\n'))
        self.assertEqual(str(bench(texts=(("p", ""), ("q", "\n"), ("s", "")))), "= s\n= q\n\n= p\n")
        told = bench(texts=(("p", "a"), ("q", ""), ("s", ",,\n")))
        self.assertEqual(str(told), "= s\n,,\n= q\n= p\na\n")
        told.drop("p", 0)
        self.assertEqual(str(told), "= s\n,,\n= q\n= p\n")


class Refused(unittest.TestCase):

    def test_clashes(self):
        steps = (("z", "put", "a", "x"), ("b", "given", "a"))
        with self.assertRaises(Clash) as caught:
            Bench((SOURCES, (("t", ("of", "s"), steps, ()),)), TEXTS)
        self.assertEqual(vars(caught.exception), {"table": "t", "step": "z", "other": "b", "what": "a"})


class AnyDeeds(unittest.TestCase):

    def test_each_answer_is_the_one_made_from_nought(self):
        rng = random.Random(10)
        for seed in range(25):
            drawn = Drawn(seed)
            told, wanted = Bench(drawn.program, drawn.texts), Benched(drawn.program, drawn.texts)
            for _ in range(12):
                random_deed(rng, told, wanted)
                if rng.random() < 0.6:
                    for name in rng.sample([table[0] for table in drawn.tables], 2):
                        self.assertEqual(told.rows_of(name), wanted.rows_of(name))
                things = wanted.things.every()
                for thing in rng.sample(things, min(3, len(things))):
                    self.assertEqual(told.answer(thing), wanted.answer(thing))
                for name, _ in drawn.sources:
                    self.assertEqual(told.text_of(name), wanted.text(name))
            self.same_as_run(drawn, told, wanted)

    def same_as_run(self, drawn, told, wanted):
        """Where no row was dropped the bench is as run of its texts, else as run of the rows that are left."""
        texts = tuple((name, told.text_of(name)) for name, _ in drawn.texts)
        whole = all(rows == list(range(len(rows))) for rows in [[row[0] for row in rows]
                                                                for rows in wanted.rows.values()])
        for name, rows, _ in run(drawn.program, texts):
            if whole:
                self.assertEqual(told.rows_of(name), rows)
            self.assertEqual([row[1:] for row in told.rows_of(name)], [row[1:] for row in rows])

    def test_dropped_rows_as_run_of_all_others_alone(self):
        for seed in range(30):
            rng = random.Random(seed)
            drawn = Drawn(seed)
            told = Bench(drawn.program, drawn.texts)
            left = []
            for name, shape in drawn.sources:
                for number in range(len(lines_of(shape, dict(drawn.texts)[name]))):
                    if rng.random() < 0.4:
                        told.drop(name, number)
                    else:
                        left.append((name, number))
            for name, rows, _ in run_only(drawn.program, drawn.texts, tuple(sorted(left))):
                self.assertEqual(told.rows_of(name), rows)

    def test_without_deeds_as_answer(self):
        for seed in range(20):
            drawn = Drawn(seed)
            told, wanted = Bench(drawn.program, drawn.texts), Benched(drawn.program, drawn.texts)
            for thing in wanted.things.every()[::7]:
                self.assertEqual(told.answer(thing), answer(drawn.program, drawn.texts, thing))


def random_deed(rng, told, wanted):
    """Do the same drawn deed at a bench and at its oracle; now and then several together."""
    word = rng.choice(["put", "put", "put", "add", "drop", "undo", "redo", "together"])
    if word == "undo" and wanted.deeds:
        told.undo()
        wanted.undo()
    elif word == "redo" and wanted.undone:
        told.redo()
        wanted.redo()
    elif word == "together":
        deeds = tuple(one for one in [drawn_deed(rng, wanted, word) for word in ["put", "add", "put"]] if one)
        told.together(deeds)
        wanted.deed(*deeds)
    elif word not in ("undo", "redo"):
        deed = drawn_deed(rng, wanted, word)
        if deed:
            getattr(told, deed[0])(*deed[1:])
            wanted.deed(deed)


def drawn_deed(rng, wanted, word):
    """A deed that is not refused, or None."""
    name = rng.choice(list(wanted.shapes))
    shape = wanted.shapes[name]
    worth = rng.choice([None, "a", "b", "1", "2", "a b"])
    rows = wanted.rows[name]
    if word == "add":
        return ("add", name, tuple(rng.choice([None, "a", "b", "1"]) for _ in shape[-1])) if len(rows) < 9 else None
    if not rows:
        return None
    row = rng.choice(rows)
    if word == "drop":
        return ("drop", name, row[0])
    column = rng.choice(shape[-1])
    try:
        put_cell(shape, row[1] + "\n", 0, column, worth)
    except NoCell:
        return None
    return ("put", name, row[0], column, worth)


class Whole(unittest.TestCase):

    def test_the_full_sample_behind_deeds(self):
        told = Bench(FULL, FULL_TEXTS)
        told.put("bills", 6, "sum", "7")
        told.put("bills", 6, "place", "chur")
        self.assertEqual(told.add("towns", ("3000", "bern")), 5)
        told.drop("towns", 0)
        texts = (("bills", told.text_of("bills")), ("notes", dict(FULL_TEXTS)["notes"]),
                 ("towns", told.text_of("towns")))
        for (name, rows, _), again in zip(run(FULL, texts), [told.rows_of(table[0]) for table in FULL[1]]):
            self.assertEqual([row[1:] for row in again], [row[1:] for row in rows])
        self.assertEqual(told.text_of("towns"), add_row(FULL[0][1][1], dict(FULL_TEXTS)["towns"], ("3000", "bern"))[9:])


if __name__ == "__main__":
    unittest.main()
