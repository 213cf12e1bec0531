"""What a bench keeps, and what it makes anew."""

import random
import unittest

from cleanedtables.benches import Bench
from cleanedtables.errors import NoThing
from cleanedtables.traces import trace
from tests.oracle_bench import Benched
from tests.samples import FULL, FULL_TEXTS, Drawn
from tests.test_asking import ABC, SMALL, SMALL_TEXTS, s
from tests.test_benches import random_deed

OF = (("s", ABC), ("q", ("named", ";", ("d", "e"))))


def row(table, k, number):
    return ("row", table, k, s(number))


class Made(unittest.TestCase):

    def bench(self, rows, *tables, others=""):
        return Bench((OF, tables), (("q", others), ("s", rows)))

    def test_nothing_yet(self):
        told = self.bench("x,1,\n", ("t", ("of", "s"), (), ()))
        self.assertEqual(told.made(), ())
        self.assertEqual(told.made(), ())

    def test_things_that_ask_nothing_are_never_made(self):
        told = self.bench("x,1,\nodd\n", ("t", ("of", "s"), (), ()))
        told.answer(("source", "s"))
        told.answer(("line", "s", 0))
        told.answer(("line", "s", 1))
        self.assertEqual(told.made(), ())
        told.put("s", 0, "a", "y")
        told.answer(("line", "s", 0))
        self.assertEqual(told.made(), ())

    def test_in_the_order_in_which_they_were_answered(self):
        for program, texts in [(SMALL, SMALL_TEXTS), (FULL, FULL_TEXTS)]:
            for table in program[1]:
                told = Bench(program, texts)
                thing = ("rows", table[0])
                told.answer(thing)
                asked = [one for one, _, _ in trace(program, texts, thing)]
                self.assertEqual(list(told.made()), [one for one in asked if one[0] not in ("source", "line")])

    def test_once_alone_between_deeds(self):
        told = self.bench("x,1,\ny,2,\n", ("t", ("of", "s"), (("g", "given", "a"),), ()))
        told.rows_of("t")
        self.assertEqual(told.made(), (("rows", "t"), row("t", 0, 0), row("t", 1, 0), row("t", 0, 1), row("t", 1, 1)))
        told.rows_of("t")
        told.answer(row("t", 0, 1))
        self.assertEqual(told.made(), ())

    def test_asked_twice(self):
        told = self.bench("x,1,\n", ("t", ("of", "s"), (), ()))
        told.rows_of("t")
        self.assertEqual(len(told.made()), 2)
        self.assertEqual(told.made(), ())

    def test_what_is_by_the_side_is_not_made(self):
        told = self.bench("x,1,\ny,2,\n", ("t", ("of", "s"), (("g", "given", "a"),), ()))
        told.answer(row("t", 0, 0))
        self.assertEqual(told.made(), (row("t", 0, 0),))
        for thing in [row("t", 0, 2), ("parts", "t", s(0)), ("above", "t", s(7))]:
            self.assertRaises(NoThing, told.answer, thing)
        str(told), len(told), told == told, told.text_of("s"), told.log(), told.is_open()
        self.assertEqual(told.made(), ())

    def test_a_cell_told_otherwise_makes_what_comes_of_it_alone(self):
        told = self.bench("x,1,\ny,2,\n", ("t", ("of", "s"), (("g", "given", "a"),), ()))
        told.rows_of("t")
        told.made()
        told.put("s", 1, "b", "3")
        self.assertEqual(told.rows_of("t")[1], (s(1), ("y", "3", None), ()))
        self.assertEqual(told.made(), (row("t", 0, 1), row("t", 1, 1)))

    def test_a_cell_told_as_it_was_makes_nothing(self):
        told = self.bench("x,1,\n", ("t", ("of", "s"), (("g", "given", "a"),), ()))
        told.rows_of("t")
        told.made()
        told.put("s", 0, "b", "1")
        told.rows_of("t")
        self.assertEqual(told.made(), ())

    def test_a_thing_whose_asked_ones_told_the_same_stays(self):
        group = ("gr", ("group", "t", ("a",), (("n", "count", None),)), (), ())
        told = self.bench("x,,\ny,,\n", ("t", ("of", "s"), (("sp", "spell", "a", (("z", "x"),)),), ()), group)
        told.rows_of("gr")
        told.made()
        # The row is spelled alike: its line is otherwise, what comes of it isn't.
        told.put("s", 0, "a", "z")
        told.rows_of("gr")
        self.assertEqual(told.made(), (row("t", 0, 0), row("t", 1, 0)))

    def test_what_is_not_asked_is_not_made(self):
        told = self.bench("x,1,\ny,2,\n", ("t", ("of", "s"), (), ()), ("u", ("of", "s"), (("g", "given", "a"),), ()))
        told.rows_of("t")
        told.rows_of("u")
        told.made()
        told.put("s", 0, "a", "z")
        told.put("s", 1, "a", "w")
        told.rows_of("t")
        self.assertEqual(told.made(), (row("t", 0, 0), row("t", 0, 1)))
        told.answer(row("u", 1, 1))
        self.assertEqual(told.made(), (row("u", 0, 1), row("u", 1, 1)))

    def test_asked_again_until_an_answer_is_another_one(self):
        """A look asks for the keyed rows, then for the one found; of another key these are not asked any more."""
        told = self.bench("1,,\n", ("k", ("of", "q"), (), ()),
                          ("t", ("of", "s"), (("l", "look", "a", "k", "d", "e", "x"),), ()),
                          others="d=1;e=p\nd=2;e=r\n")
        told.rows_of("t")
        told.made()
        told.put("q", 0, "e", "pp")
        told.put("s", 0, "a", None)
        told.rows_of("t")
        # Neither the keyed rows nor the one found are asked.
        self.assertEqual(told.made(), (row("t", 0, 0), row("t", 1, 0)))
        told.put("s", 0, "a", "1")
        told.rows_of("t")
        self.assertEqual(told.made(), (
            row("t", 0, 0), ("row", "k", 0, ("q", 0)), ("keyed", "k", "d", "1"), row("t", 1, 0)))

    def test_fill_asks_no_further_than_the_row_that_gives(self):
        told = self.bench("a,,\nb,,\n,,\n", ("t", ("of", "s"), (("f", "fill", "a", ()),), ()))
        told.answer(row("t", 1, 2))
        self.assertEqual(told.made(), (row("t", 0, 2), ("rows", "t"), ("above", "t", s(2)), row("t", 0, 1),
                                       row("t", 1, 2)))
        told.put("s", 0, "a", "c")
        told.answer(row("t", 1, 2))
        self.assertEqual(told.made(), ())
        told.put("s", 1, "a", None)
        self.assertEqual(told.answer(row("t", 1, 2)), (("c", None, None), ()))
        self.assertEqual(told.made(), (row("t", 0, 1), ("above", "t", s(1)), row("t", 0, 0), row("t", 1, 2)))

    def test_as_often_as_it_was_made(self):
        told = self.bench("x,1,\n", ("t", ("of", "s"), (), ()))
        told.answer(row("t", 0, 0))
        told.put("s", 0, "a", "y")
        told.answer(row("t", 0, 0))
        told.put("s", 0, "a", "z")
        told.put("s", 0, "a", "w")
        told.answer(row("t", 0, 0))
        self.assertEqual(told.made(), (row("t", 0, 0),) * 3)

    def test_undo_and_redo_are_looked_through_too(self):
        told = self.bench("x,1,\n", ("t", ("of", "s"), (), ()))
        told.answer(row("t", 0, 0))
        told.put("s", 0, "a", "y")
        told.undo()
        self.assertEqual(told.answer(row("t", 0, 0)), (("x", "1", None), ()))
        self.assertEqual(told.made(), (row("t", 0, 0),))
        told.redo()
        self.assertEqual(told.answer(row("t", 0, 0)), (("y", "1", None), ()))
        told.undo()
        self.assertEqual(told.answer(row("t", 0, 0)), (("x", "1", None), ()))
        self.assertEqual(told.made(), (row("t", 0, 0), row("t", 0, 0)))

    def test_rows_added_and_dropped(self):
        told = self.bench("x,1,\ny,2,\n", ("t", ("of", "s"), (), ()),
                          ("gr", ("group", "t", ("a",), (("n", "count", None),)), (), ()))
        told.rows_of("gr")
        told.made()
        told.add("s", ("x", None, None))
        told.rows_of("gr")
        self.assertEqual(told.made(), (
            ("rows", "t"), row("t", 0, 2), ("rows", "gr"), ("parts", "gr", ("x",)), ("row", "gr", 0, ("x",)),
            ("parts", "gr", ("y",))))
        told.drop("s", 1)
        told.rows_of("gr")
        self.assertEqual(told.made(), (("rows", "t"), ("rows", "gr"), ("parts", "gr", ("x",))))
        told.undo()
        # What is kept of a row that was away stays, where all it asked for tells the same again.
        told.rows_of("gr")
        self.assertEqual(told.made(), (
            ("rows", "t"), ("rows", "gr"), ("parts", "gr", ("x",))))

    def test_a_number_that_is_given_again(self):
        told = self.bench("", ("t", ("of", "s"), (), ()))
        self.assertEqual(told.add("s", ("x", None, None)), 0)
        told.rows_of("t")
        told.undo()
        self.assertEqual(told.add("s", ("y", None, None)), 0)
        self.assertEqual(told.rows_of("t"), ((s(0), ("y", None, None), ()),))
        self.assertEqual(told.made(), (("rows", "t"), row("t", 0, 0), row("t", 0, 0)))

    def test_against_the_oracle(self):
        rng = random.Random(20)
        made = 0
        for seed in range(50):
            drawn = Drawn(seed)
            told, wanted = Bench(drawn.program, drawn.texts), Benched(drawn.program, drawn.texts)
            for _ in range(14):
                for _ in range(rng.choice([0, 1, 1, 2])):
                    random_deed(rng, told, wanted)
                things = wanted.things.every()
                for thing in rng.sample(things, min(rng.choice([0, 1, 4]), len(things))):
                    self.assertEqual(told.answer(thing), wanted.answer(thing), (seed, thing))
                if rng.random() < 0.3:
                    name = rng.choice(drawn.tables)[0]
                    self.assertEqual(told.rows_of(name), wanted.rows_of(name))
                if rng.random() < 0.5:
                    anew = wanted.made()
                    self.assertEqual(told.made(), anew, seed)
                    made += len(anew)
        self.assertGreater(made, 2000)

    def test_from_nought_nothing_else_is_made_than_what_is_otherwise(self):
        """All that is made behind a deed asked for something that told otherwise, or was not kept."""
        rng = random.Random(21)
        for seed in range(20):
            drawn = Drawn(seed)
            told, wanted = Bench(drawn.program, drawn.texts), Benched(drawn.program, drawn.texts)
            names = [table[0] for table in drawn.tables]
            for name in names:
                told.rows_of(name)
            before = {thing: wanted.things.answer(thing) for thing in wanted.things.every()}
            kept = set(told.made())
            random_deed(rng, told, wanted)
            for name in names:
                told.rows_of(name)
            for thing in told.made():
                asked = wanted.things.asks(thing)
                otherwise = any(before.get(one) != wanted.things.answer(one) for one in asked)
                self.assertTrue(otherwise or thing not in kept, thing)


if __name__ == "__main__":
    unittest.main()
