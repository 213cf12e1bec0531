"""Deeds done together at a bench, and its log."""

import random
import unittest

from cleanedtables.benches import Bench
from cleanedtables.errors import NoCell, NoDeed, NoFit, NoRow, NoSource
from cleanedtables.cells import put_cell
from tests.oracle_bench import Benched
from tests.samples import Drawn
from tests.test_asking import ABC, s
from tests.test_benches import TEXTS, bench, drawn_deed, random_deed


class Halt(Exception):
    """What a look raises."""


def halting(number):
    """A look that raises behind so many deeds."""
    def look(many):
        if many == number:
            raise Halt(many)
    return look


DEEDS = (("put", "s", 0, "a", "z"), ("add", "s", ("1", None, None)), ("drop", "s", 1), ("put", "s", 4, "b", "2"),
         ("add", "q", (None, "5")))


class Together(unittest.TestCase):

    def test_all_are_done_in_order_and_what_they_tell(self):
        told, alone = bench(), bench()
        self.assertEqual(told.together(DEEDS), (None, 4, None, None, 4))
        for deed in DEEDS:
            getattr(alone, deed[0])(*deed[1:])
        self.assertEqual(told, alone)
        self.assertEqual(str(told), str(alone))

    def test_each_is_one_deed(self):
        told = bench()
        told.put("s", 0, "a", "y")
        told.together(DEEDS)
        state = str(told)
        told.undo()
        self.assertEqual(told.text_of("s"), put_cell(ABC, dict(TEXTS)["s"], 0, "a", "y"))
        told.redo()
        self.assertEqual(str(told), state)
        told.undo()
        told.undo()
        self.assertEqual(told, bench())
        self.assertRaises(NoDeed, told.undo)

    def test_of_no_deed(self):
        told = bench()
        self.assertEqual(told.together(()), ())
        self.assertEqual(told, bench())
        self.assertEqual(told.log(), ("begun 0", "ended 0"))
        told.undo()
        self.assertRaises(NoDeed, told.undo)
        told.redo()
        self.assertRaises(NoDeed, told.redo)
        # An empty one is a deed, too: it comes between.
        told.put("s", 0, "a", "y")
        told.undo()
        told.together(())
        self.assertRaises(NoDeed, told.redo)
        told.undo()
        told.undo()
        self.assertRaises(NoDeed, told.undo)

    def test_a_refused_deed_takes_all_back(self):
        cases = [
            (("put", "s", 9, "a", "x"), NoRow, {"row": 9}),
            (("put", "s", 1, "a", "x"), NoRow, {"row": 1}),
            (("put", "s", 2, "a", "x"), NoCell, {"number": 2, "column": "a"}),
            (("drop", "x", 2), NoSource, {"source": "x"}),
            (("add", "p", ("abc", None)), NoFit, {"worth": "abc"}),
            (("put", "p", 0, "f", "abc"), NoFit, {"worth": "abc"}),
        ]
        for deed, error, values in cases:
            for place in [3, 4, 5]:
                told = bench()
                with self.assertRaises(error) as caught:
                    told.together(DEEDS[:place] + (deed,) + DEEDS[place:])
                self.assertEqual(vars(caught.exception), values)
                self.assertEqual(told, bench())
                self.assertEqual(str(told), str(bench()))
                self.assertEqual(told.log(), ("begun 6", f"ended {place}"))
                self.assertRaises(NoDeed, told.undo)
                self.assertRaises(NoDeed, told.redo)
                self.assertEqual(told.add("s", (None, None, None)), 4)

    def test_a_look_that_raises_takes_all_back_and_that_goes_on(self):
        for number in range(1, 6):
            told = bench()
            with self.assertRaises(Halt) as caught:
                told.together(DEEDS, look=halting(number))
            self.assertEqual(caught.exception.args, (number,))
            self.assertEqual(told, bench())
            self.assertEqual(told.log(), ("begun 5", f"ended {number}"))
            self.assertIs(told.is_open(), False)
            self.assertRaises(NoDeed, told.undo)
        told = bench()
        self.assertEqual(told.together(DEEDS, look=halting(6)), (None, 4, None, None, 4))

    def test_whatever_is_raised(self):
        for error in [KeyboardInterrupt, SystemExit, GeneratorExit, ValueError, NoRow(3), StopIteration]:
            told = bench()

            def look(many, error=error):
                raise error

            with self.assertRaises(error if isinstance(error, type) else NoRow) as caught:
                told.together(DEEDS, look=look)
            if not isinstance(error, type):
                self.assertIs(caught.exception, error)
            self.assertEqual(told, bench())
            self.assertEqual(told.log(), ("begun 5", "ended 1"))

    def test_behind_a_fallen_one_deeds_and_undone_ones_are_as_ahead(self):
        told = bench()
        told.put("s", 0, "a", "w")
        told.put("s", 0, "a", "y")
        told.undo()
        self.assertRaises(Halt, told.together, DEEDS, look=halting(2))
        self.assertRaises(NoRow, told.together, DEEDS + (("drop", "s", 99),))
        told.redo()
        self.assertEqual(told.answer(("line", "s", 0)), ("y", "1", None))
        told.undo()
        told.undo()
        self.assertEqual(told, bench())
        self.assertRaises(NoDeed, told.undo)
        self.assertEqual(told.log(), ("begun 5", "ended 2", "begun 6", "ended 5"))

    def test_one_behind_another_undone_and_done_again(self):
        told = bench()
        told.together(DEEDS[:2])
        first = str(told)
        told.together(DEEDS[2:])
        second = str(told)
        told.undo()
        self.assertEqual(str(told), first)
        told.undo()
        self.assertEqual(told, bench())
        told.redo()
        told.redo()
        self.assertEqual(str(told), second)
        self.assertEqual(told.log(), ("begun 2", "ended 2", "begun 3", "ended 3"))

    def test_what_is_handed_in_stays(self):
        deeds = tuple(DEEDS)
        bench().together(deeds)
        self.assertEqual(deeds, DEEDS)


class Looks(unittest.TestCase):

    def test_asked_behind_each_with_how_many_are_done(self):
        numbers = []
        told = bench()
        told.together(DEEDS, look=numbers.append)
        self.assertEqual(numbers, [1, 2, 3, 4, 5])
        told.together((), look=numbers.append)
        self.assertEqual(numbers, [1, 2, 3, 4, 5])
        self.assertTrue(all(type(number) is int for number in numbers))

    def test_it_finds_what_is_done_by_then(self):
        told, alone = bench(), bench()
        seen = []

        def look(many):
            deed = DEEDS[many - 1]
            getattr(alone, deed[0])(*deed[1:])
            self.assertEqual(told, alone)
            self.assertEqual(str(told), str(alone))
            self.assertEqual(len(told), len(alone))
            for source in "sqp":
                self.assertEqual(told.text_of(source), alone.text_of(source))
            for name in ["t", "k", "gr"]:
                self.assertEqual(told.rows_of(name), alone.rows_of(name))
            self.assertEqual(told.answer(("source", "s")), alone.answer(("source", "s")))
            self.assertEqual(told.made(), alone.made())
            self.assertIs(told.is_open(), True)
            self.assertEqual(told.log(), ("begun 5",))
            seen.append(many)

        told.together(DEEDS, look=look)
        self.assertEqual(seen, [1, 2, 3, 4, 5])
        self.assertIs(told.is_open(), False)
        self.assertEqual(told.log(), ("begun 5", "ended 5"))

    def test_it_may_be_refused_what_it_asks(self):
        told = bench()
        with self.assertRaises(NoSource):
            told.together(DEEDS, look=lambda many: told.text_of("x") if many == 2 else None)
        self.assertEqual(told, bench())
        self.assertEqual(told.log(), ("begun 5", "ended 2"))

    def test_what_is_kept_of_things_and_made_stays(self):
        told = bench()
        told.rows_of("gr")
        told.made()

        def look(many):
            if many == 1:
                told.answer(("row", "t", 0, s(0)))
            if many == 2:
                raise Halt()

        self.assertRaises(Halt, told.together, DEEDS, look=look)
        # It was made of what was done by then; asked again it is made again.
        self.assertEqual(told.made(), (("row", "t", 0, s(0)),))
        self.assertEqual(told.answer(("row", "t", 0, s(0))), (("x", "1", None), ()))
        self.assertEqual(told.made(), (("row", "t", 0, s(0)),))
        told.rows_of("gr")
        self.assertEqual(told.made(), ())

    def test_made_asked_by_a_look_that_falls(self):
        told = bench()
        told.answer(("rows", "t"))
        got = []

        def look(many):
            got.append(told.made())
            raise Halt()

        self.assertRaises(Halt, told.together, DEEDS, look=look)
        self.assertEqual(got, [(("rows", "t"),)])
        self.assertEqual(told.made(), ())

    def test_what_stayed_ahead_of_a_fallen_one_is_looked_through_again(self):
        told = bench()
        self.assertEqual(told.answer(("row", "t", 1, s(0))), (("x", "1", None), ()))
        self.assertRaises(Halt, told.together, DEEDS[:1], look=halting(1))
        self.assertEqual(told.answer(("row", "t", 1, s(0))), (("x", "1", None), ()))

        def look(many):
            self.assertEqual(told.answer(("row", "t", 1, s(0))), (("z", "1", None), ()))
            raise Halt()

        self.assertRaises(Halt, told.together, DEEDS[:1], look=look)
        self.assertEqual(told.answer(("row", "t", 1, s(0))), (("x", "1", None), ()))
        self.assertEqual(told.rows_of("t")[0], (s(0), ("x", "1", None), ()))


class Logs(unittest.TestCase):

    def test_each_together_and_no_other_deed(self):
        told = bench()
        self.assertEqual(told.log(), ())
        told.put("s", 0, "a", "y")
        told.undo()
        told.redo()
        self.assertEqual(told.log(), ())
        told.together(DEEDS[1:3])
        told.together(())
        self.assertRaises(Halt, told.together, DEEDS[1:2], look=halting(1))
        self.assertRaises(NoRow, told.together, (("drop", "s", 99), ("drop", "s", 0)))
        wanted = ("begun 2", "ended 2", "begun 0", "ended 0", "begun 1", "ended 1", "begun 2", "ended 0")
        self.assertEqual(told.log(), wanted)
        told.undo()
        self.assertEqual(told.log(), wanted)
        self.assertEqual(told.log(), wanted)

    def test_open_only_while_one_is_done(self):
        told = bench()
        self.assertIs(told.is_open(), False)
        opened = []
        told.together(DEEDS, look=lambda many: opened.append(told.is_open()))
        self.assertEqual(opened, [True] * 5)
        self.assertIs(told.is_open(), False)
        self.assertRaises(NoRow, told.together, (("drop", "s", 99),))
        self.assertIs(told.is_open(), False)


class AnyDeeds(unittest.TestCase):

    def test_fallen_ones_among_others(self):
        rng = random.Random(30)
        for seed in range(25):
            drawn = Drawn(seed)
            told, wanted = Bench(drawn.program, drawn.texts), Benched(drawn.program, drawn.texts)
            names = [table[0] for table in drawn.tables]
            for _ in range(10):
                random_deed(rng, told, wanted)
                deeds = tuple(one for one in [drawn_deed(rng, wanted, word) for word in ["put", "put", "add"]] if one)
                state, asked = str(told), rng.choice(names)
                fall = rng.choice([number for number in range(1, len(deeds) + 1)] or [0])

                def look(many):
                    wanted.deeds.append(deeds[many - 1:many])
                    wanted.turn()
                    self.assertEqual(told.rows_of(asked), wanted.rows_of(asked))
                    if many == fall:
                        raise Halt()

                if deeds:
                    self.assertRaises(Halt, told.together, deeds, look=look)
                    del wanted.deeds[len(wanted.deeds) - fall:]
                    wanted.turn()
                self.assertEqual(str(told), state)
                other = rng.choice(names)
                self.assertEqual(told.rows_of(other), wanted.rows_of(other))
                self.assertEqual(told.made(), wanted.made())


if __name__ == "__main__":
    unittest.main()
