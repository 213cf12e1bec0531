import random
import unittest

from cleanedtables.asking import answer, looked
from cleanedtables.cells import put_cell
from cleanedtables.errors import Clash, NoThing
from cleanedtables.programs import columns_of
from cleanedtables.running import run
from tests.oracle_asks import Things
from tests.samples import FULL, FULL_TEXTS, Drawn
from tests.things import ODD_KINDS

ABC = ("signs", ",", '"', ("a", "b", "c"))
STEPS = (("g", "given", "c"), ("u", "unlike", ("a",)), ("f", "fill", "b", ("a",)))
SMALL = (
    (("s", ABC), ("q", ("named", ";", ("d", "e")))),
    (("t", ("of", "s"), STEPS, (("g", "f"), ("g", "u"), ("u", "f"))),
     ("k", ("of", "q"), (), ()),
     ("o", ("of", "s"), (("l", "look", "b", "k", "d", "e", "x"),), ()),
     ("gr", ("group", "t", ("b",), (("m", "count", None),)), (), ()),
     ("w", ("wide", "t", ("c",), "a", "b", (("y", "yy"), ("x", "xx"))), (), ()),
     ("l", ("long", "t", ("a", "b"), "n", "v"), (("z", "given", "v"),), ())),
)
SMALL_TEXTS = (
    ("q", "d=1;e=one\nd=2;e=two\nodd\nd=2\n"),
    ("s", "x,1,1\ny,,\nodd\nx,2,1\ny,3,1\n,,2\n,,2\n"),
)


def s(number):
    return ("s", number)


class Answers(unittest.TestCase):

    def told(self, thing, wanted):
        self.assertEqual(answer(SMALL, SMALL_TEXTS, thing), wanted, thing)

    def test_source_and_line(self):
        self.told(("source", "s"), (0, 1, 3, 4, 5, 6))
        self.told(("source", "q"), (0, 1, 3))
        self.told(("line", "s", 0), ("x", "1", "1"))
        self.told(("line", "s", 1), ("y", None, None))
        self.told(("line", "s", 2), None)
        self.told(("line", "q", 3), ("2", None))
        self.assertEqual(answer(SMALL, (("q", ""), ("s", "")), ("source", "s")), ())

    def test_rows(self):
        self.told(("rows", "t"), (s(0), s(1), s(3), s(4), s(5), s(6)))
        self.told(("rows", "k"), (("q", 0), ("q", 1), ("q", 3)))
        self.told(("rows", "gr"), ((None,), ("1",), ("3",)))
        self.told(("rows", "w"), (("1",),))
        self.told(("rows", "l"), ((s(0), "a"), (s(0), "b"), (s(4), "a"), (s(4), "b"), (s(5), "a"), (s(5), "b"),
                                  (s(6), "a"), (s(6), "b")))

    def test_a_row_behind_each_step(self):
        self.told(("row", "t", 0, s(1)), (("y", None, None), ()))
        self.told(("row", "t", 1, s(1)), (("y", None, None), ("g",)))
        self.told(("row", "t", 2, s(1)), (("y", None, None), ("g",)))
        self.told(("row", "t", 1, s(3)), (("x", "2", "1"), ()))
        self.told(("row", "t", 2, s(3)), (("x", "2", "1"), ("u",)))
        self.told(("row", "t", 3, s(3)), (("x", "2", "1"), ("u",)))
        self.told(("row", "t", 3, s(4)), (("y", "3", "1"), ()))
        self.told(("row", "gr", 0, ("1",)), (("1", 1), ()))
        self.told(("row", "w", 0, ("1",)), (("1", "3", "1"), ()))
        self.told(("row", "l", 0, (s(5), "b")), (("2", "b", None), ()))
        self.told(("row", "l", 1, (s(5), "b")), (("2", "b", None), ("z",)))

    def test_worths_by_the_columns_there_are_then(self):
        self.told(("row", "o", 0, s(0)), (("x", "1", "1"), ()))
        self.told(("row", "o", 1, s(0)), (("x", "1", "1", "one"), ()))
        self.told(("row", "o", 1, s(1)), (("y", None, None, None), ()))
        self.told(("row", "o", 1, s(3)), (("x", "2", "1", None), ("l",)))
        self.told(("row", "o", 1, s(4)), (("y", "3", "1", None), ("l",)))

    def test_above(self):
        self.told(("above", "t", s(0)), None)
        self.told(("above", "t", s(1)), s(0))
        self.told(("above", "t", s(3)), s(1))
        self.told(("above", "gr", ("1",)), (None,))
        self.told(("above", "l", (s(4), "a")), (s(0), "b"))

    def test_keyed(self):
        self.told(("keyed", "t", "a", "x"), (s(0),))
        self.told(("keyed", "t", "a", "y"), (s(4),))
        self.told(("keyed", "t", "a", None), (s(5), s(6)))
        self.told(("keyed", "t", "b", "2"), ())
        self.told(("keyed", "t", "b", 2), ())
        self.told(("keyed", "k", "d", "2"), (("q", 1), ("q", 3)))
        self.told(("keyed", "o", "x", "one"), (s(0),))
        self.told(("keyed", "o", "x", "no such worth"), ())
        self.told(("keyed", "gr", "m", 1), (("1",), ("3",)))
        self.told(("keyed", "gr", "m", "1"), ())

    def test_parts(self):
        self.told(("parts", "gr", (None,)), (s(5), s(6)))
        self.told(("parts", "gr", ("3",)), (s(4),))
        self.told(("parts", "w", ("1",)), (("yy", s(4)), ("xx", s(0))))

    def test_parts_of_wide_without_those_that_have_none(self):
        steps = (("w", ("wide", "t", (), "a", "b", (("no", "aa"), ("x", "bb"))), (), ()),)
        program = (SMALL[0], SMALL[1][:1] + steps)
        self.assertEqual(answer(program, SMALL_TEXTS, ("parts", "w", ())), (("bb", s(0)),))

    def test_of_all_things_what_run_tells(self):
        for program, texts in [(FULL, FULL_TEXTS), (SMALL, SMALL_TEXTS)]:
            for (name, rows, _), table in zip(run(program, texts), program[1]):
                self.assertEqual(answer(program, texts, ("rows", name)), tuple(row for row, _, _ in rows))
                for row, worths, marks in rows:
                    self.assertEqual(answer(program, texts, ("row", name, len(table[2]), row)), (worths, marks))

    def test_a_row_behind_the_first_steps_is_what_run_tells_of_these_alone(self):
        for program, texts in [(FULL, FULL_TEXTS), (SMALL, SMALL_TEXTS)]:
            for place, (name, origin, steps, behinds) in enumerate(program[1]):
                for many in range(len(steps) + 1):
                    names = [step[0] for step in steps[:many]]
                    left = tuple(pair for pair in behinds if pair[0] in names and pair[1] in names)
                    cut = (program[0], (*program[1][:place], (name, origin, steps[:many], left)))
                    for row, worths, marks in run(cut, texts)[place][1]:
                        self.assertEqual(answer(program, texts, ("row", name, many, row)), (worths, marks))

    def test_all_things_of_drawn_programs(self):
        rng = random.Random(1)
        for seed in range(60):
            drawn = Drawn(seed)
            things = Things(drawn.program, drawn.texts)
            every = things.every()
            for thing in rng.sample(every, min(25, len(every))):
                self.assertEqual(answer(drawn.program, drawn.texts, thing), things.answer(thing), (seed, thing))

    def test_by_names(self):
        self.assertEqual(answer(thing=("above", "t", s(1)), texts=SMALL_TEXTS, program=SMALL), s(0))
        self.assertEqual(looked(things=(), texts=SMALL_TEXTS, program=SMALL), ())


class NoThings(unittest.TestCase):

    def no(self, *things):
        for thing in things:
            with self.assertRaises(NoThing) as caught:
                answer(SMALL, SMALL_TEXTS, thing)
            self.assertEqual(list(vars(caught.exception)), ["thing"])
            self.assertIs(caught.exception.thing, thing)
            right = ("rows", "t")
            for several in [(thing,), (right, thing), (thing, right, None), (right, thing, None)]:
                with self.assertRaises(NoThing) as caught:
                    looked(SMALL, SMALL_TEXTS, several)
                self.assertIs(caught.exception.thing, thing)

    def test_of_anything(self):
        self.no(*ODD_KINDS)
        self.no(None, 0, "", "rows", ("rows",), ("source",), ("nothing", "t"), ("Rows", "t"), (None, "t"))

    def test_things_of_any_kind_at_each_part(self):
        things = [("source", "s"), ("line", "s", 1), ("rows", "t"), ("row", "t", 1, s(1)), ("above", "t", s(1)),
                  ("keyed", "t", "a", "x"), ("parts", "w", ("1",)), ("row", "l", 1, (s(0), "a"))]
        for thing in things:
            answer(SMALL, SMALL_TEXTS, thing)
            for place in range(len(thing)):
                for odd in [*ODD_KINDS, "q q", -1, 99]:
                    if thing[0] != "keyed" or place != 3 or not isinstance(odd, (str, int)) or isinstance(odd, bool):
                        self.no(thing[:place] + (odd,) + thing[place + 1:])
            self.no(list(thing), thing[:-1], thing + (None,), thing + (thing[-1],))

    def test_sources(self):
        self.no(("source", "t"), ("source", "x"), ("source", None), ("source", ("s",)), ("source", ["s"]))
        self.no(("line", "t", 0), ("line", "s", 7), ("line", "s", -1), ("line", "s", "0"), ("line", "s", None),
                ("line", "s", True), ("line", "s", False), ("line", "s"), ("line", "q", 4), ("line", "s", (0,)))

    def test_tables(self):
        self.no(("rows", "s"), ("rows", "x"), ("rows", "T"), ("rows", 1), ("row", "s", 0, s(0)),
                ("above", "s", s(0)), ("keyed", "s", "a", "x"), ("parts", "s", ("1",)))

    def test_steps(self):
        for many in [-1, 4, 99, True, False, None, "1", (1,), [1]]:
            self.no(("row", "t", many, s(0)))
        self.no(("row", "gr", 1, ("1",)), ("row", "o", 2, s(0)))
        answer(SMALL, SMALL_TEXTS, ("row", "t", 3, s(0)))
        answer(SMALL, SMALL_TEXTS, ("row", "t", 0, s(0)))

    def test_rows(self):
        for row in [s(2), s(7), s(-1), s(True), s(False), s("0"), s(None), ["s", 0], ("q", 0), ("s",), "s", 0, None,
                    ("s", 0, 0), (("s", 0),), ("t", 0), ("S", 0), ("s", (0,))]:
            self.no(("row", "t", 0, row), ("row", "t", 3, row), ("above", "t", row), ("parts", "gr", row))
        for row in [(), ("1", "1"), (1,), ("2",), ["1"], "1", None, (True,), ((None,),), [None]]:
            self.no(("row", "gr", 0, row), ("above", "gr", row), ("parts", "gr", row))
        for row in [(s(0), "c"), (s(1), "a"), (["s", 0], "a"), (s(0),), [s(0), "a"], s(0), (s(False), "a")]:
            self.no(("row", "l", 0, row), ("above", "l", row))
        answer(SMALL, SMALL_TEXTS, ("parts", "gr", (None,)))

    def test_rows_called_by_numbers(self):
        program = (SMALL[0][:1], (
            ("t", ("of", "s"), (("r", "read", "c", ("whole",), "n"),), ()),
            ("g", ("group", "t", ("n",), (("m", "count", None),)), (), ())))
        texts = SMALL_TEXTS[1:]
        self.assertEqual(answer(program, texts, ("rows", "g")), ((None,), (1,), (2,)))
        self.assertEqual(answer(program, texts, ("row", "g", 0, (1,))), ((1, 3), ()))
        for row in [(True,), ("1",), [1], (0,), (False,), 1]:
            self.assertRaises(NoThing, answer, program, texts, ("row", "g", 0, row))
            self.assertRaises(NoThing, answer, program, texts, ("parts", "g", row))
        self.assertEqual(answer(program, texts, ("keyed", "t", "n", 1)), (s(0), s(3), s(4)))
        self.assertEqual(answer(program, texts, ("keyed", "t", "n", "1")), ())

    def test_keyed(self):
        self.no(("keyed", "t", "d", "x"), ("keyed", "t", "x", "x"), ("keyed", "t", None, "x"), ("keyed", "t", "a"))
        for worth in ["", " x", "x ", "x\n", True, False, ("x",), ["x"], b"x"]:
            self.no(("keyed", "t", "a", worth))
        # Columns are those behind all steps.
        answer(SMALL, SMALL_TEXTS, ("keyed", "o", "x", "one"))

    def test_parts_of_other_tables_than_group_and_wide(self):
        self.no(("parts", "t", s(0)), ("parts", "l", (s(0), "a")), ("parts", "o", s(0)))
        program = (SMALL[0], SMALL[1][:2] + (("j", ("join", "t", "k", (("b", "d"),)), (), ()),))
        row = (s(0), ("q", 0))
        self.assertEqual(answer(program, SMALL_TEXTS, ("rows", "j")), (row,))
        self.assertRaises(NoThing, answer, program, SMALL_TEXTS, ("parts", "j", row))
        self.assertRaises(NoThing, answer, program, SMALL_TEXTS, ("row", "j", 0, (row[1], row[0])))

    def test_things_that_are_no_tuple(self):
        for things in [None, 0, "", "rows", [], [("rows", "t")], {}, {("rows", "t"): 1}, ODD_KINDS[-1:], True]:
            with self.assertRaises(NoThing) as caught:
                looked(SMALL, SMALL_TEXTS, things)
            self.assertIs(caught.exception.thing, things)
        self.assertRaises(NoThing, looked, SMALL, SMALL_TEXTS, ("rows", "t"))


class Looked(unittest.TestCase):

    def told(self, wanted, *things):
        self.assertEqual(looked(SMALL, SMALL_TEXTS, things), wanted, things)

    def test_lines_asked_on_the_way(self):
        self.told(())
        self.told((), ("source", "s"), ("rows", "t"), ("rows", "k"), ("above", "t", s(3)))
        self.told((s(2),), ("line", "s", 2))
        self.told((s(1),), ("row", "t", 0, s(1)))
        self.told((s(0), s(1)), ("row", "t", 3, s(1)))
        self.told((s(0), s(1), s(3)), ("row", "t", 2, s(3)))
        self.told((s(0),), ("row", "t", 3, s(0)))
        self.told((("q", 0), ("q", 1), ("q", 3)), ("keyed", "k", "d", "2"))
        self.told((("q", 0), ("q", 1), ("q", 3), s(0)), ("row", "o", 1, s(0)))
        self.told((s(1),), ("row", "o", 1, s(1)))

    def test_of_several_things_each_line_once_rising(self):
        self.told((("q", 0), s(0), s(4)), ("line", "s", 4), ("line", "q", 0), ("line", "s", 0), ("row", "t", 0, s(4)))

    def test_lines_of_rows_that_stand_for_others(self):
        rows = tuple(s(number) for number in [0, 1, 3, 4, 5, 6])
        for thing in [("rows", "gr"), ("parts", "gr", ("1",)), ("rows", "l"), ("row", "w", 0, ("1",))]:
            self.told(rows, thing)
        self.told((s(0),), ("row", "l", 1, (s(0), "b")))

    def test_against_the_oracle(self):
        rng = random.Random(2)
        for seed in range(40):
            drawn = Drawn(seed)
            things = Things(drawn.program, drawn.texts)
            every = things.every()
            for many in [1, 1, 2, 3]:
                picked = tuple(rng.sample(every, min(many, len(every))))
                lines = {asked[1:] for thing in picked for asked, _, _ in things.trace(thing) if asked[0] == "line"}
                self.assertEqual(looked(drawn.program, drawn.texts, picked), tuple(sorted(lines)))


class NotLookedAt(unittest.TestCase):

    def test_cells_of_rows_that_are_not_looked_at_may_be_told_otherwise(self):
        rng = random.Random(6)
        left = 0
        for seed in range(60):
            drawn = Drawn(seed)
            things = Things(drawn.program, drawn.texts)
            every = things.every()
            for thing in rng.sample(every, min(8, len(every))):
                wanted = answer(drawn.program, drawn.texts, thing)
                lines = looked(drawn.program, drawn.texts, (thing,))
                texts = []
                for name, shape in drawn.sources:
                    text = dict(drawn.texts)[name]
                    for number in answer(drawn.program, drawn.texts, ("source", name)):
                        if (name, number) not in lines:
                            for column in shape[-1]:
                                if shape[0] != "named" or f"{column}=" in text.split("\n")[number]:
                                    text = put_cell(shape, text, number, column, rng.choice([None, "b", "7", "zz"]))
                                    left += 1
                    texts.append((name, text))
                self.assertEqual(answer(drawn.program, tuple(texts), thing), wanted, (seed, thing))
                self.assertEqual(looked(drawn.program, tuple(texts), (thing,)), lines)
        self.assertGreater(left, 500)


class Refused(unittest.TestCase):

    STEPS = (("z", "put", "a", "x"), ("b", "given", "a"))
    PROGRAM = (SMALL[0], (("t", ("of", "s"), STEPS, ()),))

    def test_clashes_ahead_of_all_else(self):
        for thing in [("rows", "t"), ("rows", "q"), None, [], ("row", "t", 9, s(0))]:
            for function, argument in [(answer, thing), (looked, (thing,)), (looked, thing)]:
                with self.assertRaises(Clash) as caught:
                    function(self.PROGRAM, SMALL_TEXTS, argument)
                self.assertEqual(vars(caught.exception), {"table": "t", "step": "z", "other": "b", "what": "a"})


class Kinds(unittest.TestCase):

    def test_columns_of_the_samples(self):
        self.assertEqual([column for column, _ in columns_of(SMALL, "o")], ["a", "b", "c", "x"])

    def test_what_is_told_is_of_tuples(self):
        for thing in Things(SMALL, SMALL_TEXTS).every():
            self.assertIn(type(answer(SMALL, SMALL_TEXTS, thing)), (tuple, type(None)))
        self.assertIs(type(looked(SMALL, SMALL_TEXTS, (("rows", "gr"),))), tuple)


if __name__ == "__main__":
    unittest.main()
