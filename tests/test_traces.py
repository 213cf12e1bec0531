import random
import unittest

from cleanedtables.asking import answer, looked
from cleanedtables.cells import put_cell
from cleanedtables.errors import Clash, NoThing
from cleanedtables.traces import shows_trace, trace
from tests.oracle_asks import Things
from tests.samples import FULL, FULL_TEXTS, Drawn
from tests.test_asking import ABC, SMALL, SMALL_TEXTS, s
from tests.things import ODD_KINDS, Agreeing, Stubborn, nested


def texts_of(rows):
    return (("q", "d=1;e=one\nd=2;e=two\nd=2\n"), ("s", rows))


class Traces(unittest.TestCase):

    def told(self, rows, thing, *wanted, program=SMALL):
        """Check a trace, told by hand as (thing, numbers, answer)."""
        texts = texts_of(rows)
        made = trace(program, texts, thing)
        self.assertEqual(made, wanted)
        self.assertEqual(made[-1][0], thing)
        self.assertEqual(made[-1][2], answer(program, texts, thing))
        self.assertIs(shows_trace(program, texts, thing, made), True)

    def test_source_and_line_ask_nothing(self):
        self.told("x,1,1\nodd\n", ("source", "s"), (("source", "s"), (), (0,)))
        self.told("x,1,1\nodd\n", ("line", "s", 0), (("line", "s", 0), (), ("x", "1", "1")))
        self.told("x,1,1\nodd\n", ("line", "s", 1), (("line", "s", 1), (), None))

    def test_rows_of_a_source(self):
        self.told("x,1,1\nodd\n,,\n", ("rows", "t"),
                  (("source", "s"), (), (0, 2)), (("rows", "t"), (0,), (s(0), s(2))))

    def test_above(self):
        source, rows = (("source", "s"), (), (0, 1)), (("rows", "t"), (0,), (s(0), s(1)))
        self.told("x,1,1\n,,\n", ("above", "t", s(1)), source, rows, (("above", "t", s(1)), (1,), s(0)))
        self.told("x,1,1\n,,\n", ("above", "t", s(0)), source, rows, (("above", "t", s(0)), (1,), None))

    def test_a_row_behind_no_steps_and_behind_steps_that_ask_nothing(self):
        self.told("x,1,\n", ("row", "t", 1, s(0)),
                  (("line", "s", 0), (), ("x", "1", None)),
                  (("row", "t", 0, s(0)), (0,), (("x", "1", None), ())),
                  (("row", "t", 1, s(0)), (1,), (("x", "1", None), ("g",))))

    def test_unlike_asks_not_where_the_row_is_marked_or_a_column_is_none(self):
        for row in ["x,1,", ",1,1"]:
            made = trace(SMALL, texts_of(f"x,1,1\n{row}\n"), ("row", "t", 2, s(1)))
            self.assertEqual([thing[:3] for thing, _, _ in made], [
                ("line", "s", 1), ("row", "t", 0), ("row", "t", 1), ("row", "t", 2)])

    def test_unlike_asks_upwards_until_one_marks_it(self):
        line = {n: (("line", "s", n), (), worths) for n, worths in [
            (0, ("x", "1", "1")), (1, ("x", "2", "1")), (2, ("x", "3", None)), (3, ("y", "4", "1")),
            (4, ("x", "5", "1"))]}
        names = tuple(s(n) for n in range(5))

        def row(k, n, at, worths, marks=()):
            return (("row", "t", k, s(n)), (at,), (worths, marks))

        self.told(
            "x,1,1\nx,2,1\nx,3,\ny,4,1\nx,5,1\n", ("row", "t", 2, s(4)),
            line[4], row(0, 4, 0, ("x", "5", "1")), row(1, 4, 1, ("x", "5", "1")),
            (("source", "s"), (), (0, 1, 2, 3, 4)), (("rows", "t"), (3,), names),
            (("above", "t", s(4)), (4,), s(3)),
            line[3], row(0, 3, 6, ("y", "4", "1")), row(1, 3, 7, ("y", "4", "1")),
            (("above", "t", s(3)), (4,), s(2)),
            line[2], row(0, 2, 10, ("x", "3", None)), row(1, 2, 11, ("x", "3", None), ("g",)),
            (("above", "t", s(2)), (4,), s(1)),
            line[1], row(0, 1, 14, ("x", "2", "1")), row(1, 1, 15, ("x", "2", "1")),
            (("row", "t", 2, s(4)), (2, 5, 8, 9, 12, 13, 16), (("x", "5", "1"), ("u",))))

    def test_unlike_asks_upwards_until_none_is_above(self):
        made = trace(SMALL, texts_of("y,1,1\nx,2,1\n"), ("row", "t", 2, s(1)))
        self.assertEqual([thing for thing, _, _ in made], [
            ("line", "s", 1), ("row", "t", 0, s(1)), ("row", "t", 1, s(1)), ("source", "s"), ("rows", "t"),
            ("above", "t", s(1)), ("line", "s", 0), ("row", "t", 0, s(0)), ("row", "t", 1, s(0)),
            ("above", "t", s(0)), ("row", "t", 2, s(1))])
        self.assertEqual(made[-1], (("row", "t", 2, s(1)), (2, 5, 8, 9), (("x", "2", "1"), ())))

    def test_fill_asks_upwards_until_one_gives_a_worth(self):
        rows = "x,1,1\nx,,1\ny,2,1\nx,3,\nx,,\n"
        made = trace(SMALL, texts_of(rows), ("row", "t", 3, s(4)))
        asked = [made[number][0] for number in made[-1][1]]
        self.assertEqual(asked, [
            ("row", "t", 2, s(4)), ("above", "t", s(4)), ("row", "t", 2, s(3)), ("above", "t", s(3)),
            ("row", "t", 2, s(2)), ("above", "t", s(2)), ("row", "t", 2, s(1)), ("above", "t", s(1)),
            ("row", "t", 2, s(0))])
        self.assertEqual(made[-1][2], (("x", "1", None), ("g",)))
        made = trace(SMALL, texts_of("y,1,1\nx,,1\n"), ("row", "t", 3, s(1)))
        self.assertEqual([made[number][0] for number in made[-1][1]], [
            ("row", "t", 2, s(1)), ("above", "t", s(1)), ("row", "t", 2, s(0)), ("above", "t", s(0))])
        self.assertEqual(made[-1][2], (("x", None, "1"), ()))

    def test_fill_asks_not_where_the_column_is_not_none(self):
        made = trace(SMALL, texts_of("x,1,1\ny,2,\n"), ("row", "t", 3, s(1)))
        self.assertEqual(made[-1], (("row", "t", 3, s(1)), (3,), (("y", "2", None), ("g",))))

    def test_look_of_none_asks_nothing(self):
        self.told("x,,\n", ("row", "o", 1, s(0)),
                  (("line", "s", 0), (), ("x", None, None)),
                  (("row", "o", 0, s(0)), (0,), (("x", None, None), ())),
                  (("row", "o", 1, s(0)), (1,), (("x", None, None, None), ())))

    def look(self, worth, found, told, marks):
        q = [("q", 0), ("q", 1), ("q", 2)]
        lines = [("1", "one"), ("2", "two"), ("2", None)]
        keyed = []
        for place, worths in enumerate(lines):
            keyed += [(("line", "q", place), (), worths), (("row", "k", 0, q[place]), (4 + 2 * place,), (worths, ()))]
        self.told(f"x,{worth},\n", ("row", "o", 1, s(0)),
                  (("line", "s", 0), (), ("x", worth, None)),
                  (("row", "o", 0, s(0)), (0,), (("x", worth, None), ())),
                  (("source", "q"), (), (0, 1, 2)), (("rows", "k"), (2,), tuple(q)), *keyed,
                  (("keyed", "k", "d", worth), (3, 5, 7, 9), tuple(q[place] for place in found)),
                  (("row", "o", 1, s(0)), (1, 10, 5) if len(found) == 1 else (1, 10),
                   (("x", worth, None, told), marks)))

    def test_look_of_none_one_and_two_rows(self):
        self.look("9", [], None, ("l",))
        self.look("1", [0], "one", ())
        self.look("2", [1, 2], None, ("l",))

    def test_group_and_its_parts(self):
        group = ("gr", ("group", "t", ("b",), (("m", "count", None),)), (), ())
        program = (SMALL[0], (("t", ("of", "s"), (), ()), group))
        rows = []
        for place, worths in enumerate([("x", "1", None), ("y", "2", None), ("z", "1", None)]):
            rows += [(("line", "s", place), (), worths),
                     (("row", "t", 0, s(place)), (2 + 2 * place,), (worths, ()))]
        ahead = ((("source", "s"), (), (0, 1, 2)), (("rows", "t"), (0,), (s(0), s(1), s(2))), *rows)
        text = "x,1,\ny,2,\nz,1,\n"
        self.told(text, ("rows", "gr"), *ahead, (("rows", "gr"), (1, 3, 5, 7), (("1",), ("2",))), program=program)
        parts = (("parts", "gr", ("1",)), (1, 3, 5, 7), (s(0), s(2)))
        self.told(text, ("parts", "gr", ("1",)), *ahead, parts, program=program)
        self.told(text, ("row", "gr", 0, ("1",)), *ahead, parts,
                  (("row", "gr", 0, ("1",)), (8, 3, 7), (("1", 2), ())), program=program)

    def test_wide_and_its_parts(self):
        program = (SMALL[0], (("t", ("of", "s"), (), ()),
                              ("w", ("wide", "t", (), "a", "b", (("y", "yy"), ("n", "nn"), ("x", "xx"))), (), ())))
        rows = []
        for place, worths in enumerate([("x", "1", None), ("z", "2", None), ("y", "3", None), ("x", "4", None)]):
            rows += [(("line", "s", place), (), worths),
                     (("row", "t", 0, s(place)), (2 + 2 * place,), (worths, ()))]
        self.told("x,1,\nz,2,\ny,3,\nx,4,\n", ("row", "w", 0, ()),
                  (("source", "s"), (), (0, 1, 2, 3)), (("rows", "t"), (0,), (s(0), s(1), s(2), s(3))), *rows,
                  (("parts", "w", ()), (1, 3, 5, 7, 9), (("yy", s(2)), ("xx", s(0)))),
                  (("row", "w", 0, ()), (10, 7, 3), (("3", None, "1"), ())), program=program)

    def test_join_and_long(self):
        tables = (("k", ("of", "q"), (), ()), ("t", ("of", "s"), (), ()),
                  ("j", ("join", "t", "k", (("b", "d"),)), (), ()), ("l", ("long", "j", ("a", "e"), "n", "v"), (), ()))
        program = (SMALL[0], tables)
        row = (s(0), ("q", 0))
        ahead = (
            (("line", "s", 0), (), ("x", "1", None)), (("row", "t", 0, s(0)), (0,), (("x", "1", None), ())),
            (("line", "q", 0), (), ("1", "one")), (("row", "k", 0, ("q", 0)), (2,), (("1", "one"), ())),
            (("row", "j", 0, row), (1, 3), (("x", "1", None, "one"), ())))
        self.told("x,1,\n", ("row", "j", 0, row), *ahead, program=program)
        self.told("x,1,\n", ("row", "l", 0, (row, "e")), *ahead,
                  (("row", "l", 0, (row, "e")), (4,), (("1", None, "e", "one"), ())), program=program)
        made = trace(program, texts_of("x,1,\n"), ("rows", "j"))
        self.assertEqual([made[number][0] for number in made[-1][1]], [
            ("rows", "t"), ("rows", "k"), ("row", "t", 0, s(0)),
            ("row", "k", 0, ("q", 0)), ("row", "k", 0, ("q", 1)), ("row", "k", 0, ("q", 2))])
        made = trace(program, texts_of("x,1,\n"), ("rows", "l"))
        self.assertEqual([made[number][0] for number in made[-1][1]], [("rows", "j"), ("row", "j", 0, row)])

    def test_keyed(self):
        self.told("", ("keyed", "t", "a", "x"), (("source", "s"), (), ()), (("rows", "t"), (0,), ()),
                  (("keyed", "t", "a", "x"), (1,), ()))

    def test_each_thing_once_behind_all_that_it_asks_for(self):
        for program, texts in [(FULL, FULL_TEXTS), (SMALL, SMALL_TEXTS)]:
            for thing in Things(program, texts).every():
                made = trace(program, texts, thing)
                self.assertEqual(len({asked for asked, _, _ in made}), len(made))
                for place, (_, numbers, _) in enumerate(made):
                    self.assertTrue(all(0 <= number < place for number in numbers))

    def test_against_the_oracle(self):
        for program, texts in [(FULL, FULL_TEXTS), (SMALL, SMALL_TEXTS)]:
            things = Things(program, texts)
            for thing in things.every():
                self.assertEqual(trace(program, texts, thing), things.trace(thing), thing)
        rng = random.Random(9)
        for seed in range(60):
            drawn = Drawn(seed)
            things = Things(drawn.program, drawn.texts)
            every = things.every()
            for thing in rng.sample(every, min(12, len(every))):
                self.assertEqual(trace(drawn.program, drawn.texts, thing), things.trace(thing), (seed, thing))

    def test_refused(self):
        for thing in [*ODD_KINDS, None, "rows", ("rows", "q"), ("row", "t", 4, s(0)), ("row", "t", True, s(0)),
                      ["rows", "t"], ("rows", "t", 1), ("line", "s", 99), ("parts", "t", s(0))]:
            with self.assertRaises(NoThing) as caught:
                trace(SMALL, SMALL_TEXTS, thing)
            self.assertIs(caught.exception.thing, thing)

    def test_by_names_and_again(self):
        wanted = trace(SMALL, SMALL_TEXTS, ("rows", "gr"))
        self.assertEqual(trace(thing=("rows", "gr"), program=SMALL, texts=SMALL_TEXTS), wanted)
        self.assertIs(shows_trace(made=wanted, thing=("rows", "gr"), texts=SMALL_TEXTS, program=SMALL), True)
        self.assertIs(shows_trace(made=None, thing=("rows", "gr"), texts=SMALL_TEXTS, program=SMALL), False)

    def test_kinds_of_what_is_told(self):
        for row in trace(SMALL, SMALL_TEXTS, ("rows", "gr")):
            self.assertEqual([type(part) for part in row[:2]], [tuple, tuple])
            self.assertIn(type(row[2]), (tuple, type(None)))
            self.assertTrue(all(type(number) is int for number in row[1]))

    def test_cells_of_lines_that_are_not_in_it_may_be_told_otherwise(self):
        rng = random.Random(8)
        for _ in range(40):
            things = Things(SMALL, SMALL_TEXTS).every()
            thing = rng.choice(things)
            wanted = trace(SMALL, SMALL_TEXTS, thing)
            lines = [asked[1:] for asked, _, _ in wanted if asked[0] == "line"]
            self.assertEqual(tuple(sorted(lines)), looked(SMALL, SMALL_TEXTS, (thing,)))
            text = dict(SMALL_TEXTS)["s"]
            for number in [0, 1, 3, 4, 5, 6]:
                if s(number) not in lines:
                    for column in "abc":
                        text = put_cell(ABC, text, number, column, rng.choice([None, "x", "1", "y"]))
            texts = (SMALL_TEXTS[0], ("s", text))
            self.assertEqual(trace(SMALL, texts, thing), wanted)
            self.assertIs(shows_trace(SMALL, texts, thing, wanted), True)


def parts_of(thing, path=()):
    """Each path to a part of nested tuples, with the part."""
    yield path, thing
    if isinstance(thing, tuple):
        for place, part in enumerate(thing):
            yield from parts_of(part, path + (place,))


def replaced(thing, path, value):
    if not path:
        return value
    return thing[:path[0]] + (replaced(thing[path[0]], path[1:], value),) + thing[path[0] + 1:]


class Shown(unittest.TestCase):

    ROWS = "x,1,1\nx,,1\ny,2,\nx,,1\n"
    THINGS = [("source", "s"), ("line", "s", 1), ("rows", "t"), ("row", "t", 3, s(3)), ("above", "t", s(0)),
              ("above", "t", s(2)), ("keyed", "t", "a", "x"), ("rows", "gr"), ("row", "gr", 0, ("1",)),
              ("parts", "gr", ("1",)), ("row", "o", 1, s(0)), ("row", "o", 1, s(2)), ("row", "l", 1, (s(0), "a"))]

    @classmethod
    def setUpClass(cls):
        cls.told = {thing: repr(trace(SMALL, texts_of(cls.ROWS), thing)) for thing in cls.THINGS + [("rows", "t")]}

    def check(self, thing, made):
        """Whether all but the trace itself is told from it."""
        wanted = repr(made) == self.told.get(thing)
        self.assertIs(shows_trace(SMALL, texts_of(self.ROWS), thing, made), wanted, made)

    def test_traces(self):
        for program, texts in [(FULL, FULL_TEXTS), (SMALL, SMALL_TEXTS)]:
            for thing in Things(program, texts).every():
                self.assertIs(shows_trace(program, texts, thing, trace(program, texts, thing)), True)
        for seed in range(20):
            drawn = Drawn(seed)
            thing = ("rows", drawn.tables[-1][0])
            made = trace(drawn.program, drawn.texts, thing)
            self.assertIs(shows_trace(drawn.program, drawn.texts, thing, made), True)

    def test_of_anything(self):
        for thing in self.THINGS:
            for made in [*ODD_KINDS, None, 0, "", (thing,), ((thing, (), None),), ((thing, ()),), nested(thing, 15)]:
                self.assertIs(shows_trace(SMALL, texts_of(self.ROWS), thing, made), False)

    def test_each_part_otherwise(self):
        rng = random.Random(13)
        for thing in self.THINGS:
            made = trace(SMALL, texts_of(self.ROWS), thing)
            paths = list(parts_of(made))
            for path, part in rng.sample(paths, min(60, len(paths))):
                others = [None, 0, 1, True, "x", (), (None,), ("x",), [], Stubborn(), Agreeing(), {}]
                if isinstance(part, tuple):
                    others += [list(part), part[:-1], part[1:], part + (None,), part + part[-1:], part[::-1]]
                if isinstance(part, int):
                    others += [part + 1, part - 1, str(part), bool(part), (part,)]
                if isinstance(part, str):
                    others += [part + "x", part[:-1], (part,), part.encode()]
                for other in others:
                    self.check(thing, replaced(made, path, other))

    def test_rows_otherwise(self):
        rng = random.Random(12)
        for thing in self.THINGS:
            made = trace(SMALL, texts_of(self.ROWS), thing)
            for place, row in enumerate(made):
                self.check(thing, made[:place] + made[place + 1:])
                self.check(thing, made[:place] + (row,) + made[place:])
                self.check(thing, made[place:])
                self.check(thing, made[:place])
                self.check(thing, made[:place] + (list(row),) + made[place + 1:])
                self.check(thing, made[:place] + (row[::-1],) + made[place + 1:])
            for _ in range(20):
                mixed = list(made)
                rng.shuffle(mixed)
                self.check(thing, tuple(mixed))
            self.check(thing, made + made)
            self.check(thing, made + (made[-1],))

    def test_numbers_that_name_other_rows(self):
        for thing in self.THINGS:
            made = trace(SMALL, texts_of(self.ROWS), thing)
            for place, row in enumerate(made):
                for at in range(len(row[1])):
                    for number in [*range(0, len(made), 3), place, place - 1, -1, -len(made), len(made), 10 ** 9]:
                        numbers = row[1][:at] + (number,) + row[1][at + 1:]
                        self.check(thing, replaced(made, (place, 1), numbers))

    def test_things_in_another_order(self):
        """Two rows that ask nothing, or not for one another, told the other way round."""
        thing = ("row", "gr", 0, ("1",))
        made = trace(SMALL, texts_of(self.ROWS), thing)
        for one in range(len(made)):
            for other in range(one + 1, len(made)):
                places = list(range(len(made)))
                places[one], places[other] = other, one
                turned = [(made[at][0], tuple(places.index(n) for n in made[at][1]), made[at][2]) for at in places]
                self.check(thing, tuple(turned))

    def test_a_thing_told_twice(self):
        thing = ("above", "t", s(0))
        source, rows, above = trace(SMALL, texts_of(self.ROWS), thing)
        again = (source, source, (rows[0], (1,), rows[2]), (above[0], (2,), above[2]))
        self.check(thing, again)
        thing = ("rows", "gr")
        made = trace(SMALL, texts_of(self.ROWS), thing)
        moved = tuple((asked, tuple(number + 1 for number in numbers), told) for asked, numbers, told in made)
        self.check(thing, (made[0], *moved))

    def test_more_than_is_asked_for(self):
        thing = ("above", "t", s(0))
        source, rows, above = trace(SMALL, texts_of(self.ROWS), thing)
        line = (("line", "s", 0), (), ("x", "1", "1"))
        self.check(thing, (line, source, (rows[0], (1,), rows[2]), (above[0], (2,), above[2])))
        self.check(thing, (source, rows, line, above))
        self.check(thing, (source, rows, (above[0], (1, 0), above[2])))
        self.check(thing, (source, rows, (above[0], (1, 1), above[2])))
        self.check(thing, (source, (rows[0], (), rows[2]), above))

    def test_other_answers_that_agree_with_one_another(self):
        made = ((("source", "s"), (), (0, 1)), (("rows", "t"), (0,), (s(0), s(1))))
        self.assertIs(shows_trace(SMALL, texts_of("x,1,1\n,,\n"), ("rows", "t"), made), True)
        self.assertIs(shows_trace(SMALL, texts_of(self.ROWS), ("rows", "t"), made), False)
        made = ((("line", "s", 0), (), ("x", "1", "2")), (("row", "t", 0, s(0)), (0,), (("x", "1", "2"), ())))
        self.assertIs(shows_trace(SMALL, texts_of("x,1,2\n"), ("row", "t", 0, s(0)), made), True)
        self.assertIs(shows_trace(SMALL, texts_of(self.ROWS), ("row", "t", 0, s(0)), made), False)

    def test_the_trace_of_another_thing(self):
        for thing in self.THINGS:
            for other in self.THINGS:
                made = trace(SMALL, texts_of(self.ROWS), other)
                self.assertIs(shows_trace(SMALL, texts_of(self.ROWS), thing, made), thing == other)

    def test_by_other_texts(self):
        made = trace(SMALL, texts_of(self.ROWS), ("rows", "gr"))
        self.assertIs(shows_trace(SMALL, texts_of("x,1,1\n"), ("rows", "gr"), made), False)

    def test_of_what_is_no_thing(self):
        made = trace(SMALL, texts_of(self.ROWS), ("rows", "t"))
        for thing in [None, "rows", ("rows", "q"), ["rows", "t"], ("row", "t", True, s(0)), *ODD_KINDS]:
            self.assertIs(shows_trace(SMALL, texts_of(self.ROWS), thing, made), False)
            for told in [(), None, made[-1][2]]:
                self.assertIs(shows_trace(SMALL, texts_of(self.ROWS), thing, ((thing, (), told),)), False)
                self.assertIs(shows_trace(SMALL, texts_of(self.ROWS), thing, (made[0], (thing, (0,), told))), False)

    def test_what_is_handed_in_stays(self):
        made = [list(row) for row in trace(SMALL, texts_of(self.ROWS), ("rows", "t"))]
        kept = [list(row) for row in made]
        shows_trace(SMALL, texts_of(self.ROWS), ("rows", "t"), made)
        self.assertEqual(made, kept)


class Refused(unittest.TestCase):

    STEPS = (("z", "put", "a", "x"), ("b", "given", "a"))
    PROGRAM = (SMALL[0], (("t", ("of", "s"), STEPS, ()),))

    def test_clashes_ahead_of_all_else(self):
        for thing in [("rows", "t"), ("rows", "q"), None, []]:
            with self.assertRaises(Clash) as caught:
                trace(self.PROGRAM, SMALL_TEXTS, thing)
            self.assertEqual(vars(caught.exception), {"table": "t", "step": "z", "other": "b", "what": "a"})

    def test_shows_trace_tells_false_of_clashes(self):
        clean = (SMALL[0], (("t", ("of", "s"), self.STEPS, (("z", "b"),)),))
        made = trace(clean, SMALL_TEXTS, ("source", "s"))
        self.assertIs(shows_trace(clean, SMALL_TEXTS, ("source", "s"), made), True)
        self.assertIs(shows_trace(self.PROGRAM, SMALL_TEXTS, ("source", "s"), made), False)
        for thing in [None, ("rows", "t"), ("rows", "q")]:
            self.assertIs(shows_trace(self.PROGRAM, SMALL_TEXTS, thing, made), False)


if __name__ == "__main__":
    unittest.main()
