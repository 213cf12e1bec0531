import itertools
import random
import unittest

from cleanedtables.byrows import alike_by_rows, goes_by_rows, onward, shows_alike
from cleanedtables.cells import add_row
from cleanedtables.programs import columns_of, look_program
from cleanedtables.running import run
from cleanedtables.spans import alike
from cleanedtables.touches import clashes
from tests.samples import FULL
from tests.test_traces import parts_of, replaced
from tests.things import ODD_KINDS, Agreeing, Stubborn, nested

AB = ("signs", ",", '"', ("a", "b"))
SOURCES = (("s", AB), ("q", ("named", ";", ("d", "e"))))
WORTHS = (("x", None), ("1", None))


def of(*steps, behinds=()):
    return (SOURCES, (("t", ("of", "s"), steps, behinds),))


FILL = of(("f", "fill", "a", ()))
PUT = of(("p", "put", "a", "x"))
# Of both the second fill sees what the first one made of rows that are not marked by g.
TWO = of(("f", "fill", "a", ()), ("g", "given", "b"), ("h", "fill", "b", ()), behinds=(("f", "g"), ("g", "h")))


class GoesByRows(unittest.TestCase):

    def test_one_table_of_a_source_without_what_asks_for_other_rows(self):
        steps = [
            ("x", "cut", "a", " ", ("n", "m")), ("x", "glue", ("a", "b"), " ", "n"), ("x", "spell", "a", ()),
            ("x", "read", "a", ("whole",), "n"), ("x", "put", "a", "x"), ("x", "given", "a"),
            ("x", "within", "a", "1", "2"), ("x", "among", "a", ("1",)), ("x", "before", "a", "b"),
            ("x", "fill", "a", ())]
        self.assertIs(goes_by_rows(of()), True)
        for step in steps:
            self.assertIs(goes_by_rows(of(step)), True, step)
            self.assertIsNone(look_program(of(step)))
        self.assertIs(goes_by_rows(program=TWO), True)
        self.assertIs(goes_by_rows(((("s", AB),), of()[1])), True)

    def test_not_with_unlike_look_or_a_fill_with_keys(self):
        for step in [("x", "unlike", ("a",)), ("x", "fill", "a", ("b",))]:
            self.assertIs(goes_by_rows(of(step)), False)
            self.assertIs(goes_by_rows(of(("g", "given", "b"), step, behinds=(("g", "x"),))), False)

    def test_not_with_more_tables_than_one(self):
        one = ("t", ("of", "s"), (), ())
        for other in [("u", ("of", "s"), (), ()), ("u", ("of", "q"), (), ()),
                      ("u", ("long", "t", ("a",), "n", "v"), (), ()),
                      ("u", ("group", "t", (), (("n", "count", None),)), (), ()),
                      ("u", ("of", "s"), (("l", "look", "a", "t", "a", "b", "n"),), ())]:
            self.assertIsNone(look_program((SOURCES, (one, other))))
            self.assertIs(goes_by_rows((SOURCES, (one, other))), False)
        self.assertIs(goes_by_rows(FULL), False)


class Onward(unittest.TestCase):

    def test_by_hand(self):
        self.assertEqual(onward(of(), (), ("x", None)), ((("x", None), True), ()))
        self.assertEqual(onward(FILL, (None,), ("x", None)), ((("x", None), True), ("x",)))
        self.assertEqual(onward(FILL, (None,), (None, "1")), (((None, "1"), True), (None,)))
        self.assertEqual(onward(FILL, ("x",), (None, "1")), ((("x", "1"), True), ("x",)))
        self.assertEqual(onward(FILL, ("x",), ("y", "1")), ((("y", "1"), True), ("y",)))
        self.assertEqual(onward(worths=("x", None), state=(None,), program=FILL), ((("x", None), True), ("x",)))

    def test_columns_behind_all_steps(self):
        program = of(("c", "cut", "a", " ", ("n", "m")), ("r", "read", "b", ("whole",), "w"))
        self.assertEqual(onward(program, (), ("x y", "7")), ((("x y", "7", "x", "y", 7), True), ()))
        self.assertEqual(onward(program, (), ("xy", "z")), ((("xy", "z", None, None, None), False), ()))

    def test_marked_rows_give_nothing_but_are_filled(self):
        program = of(("g", "given", "b"), ("f", "fill", "a", ()), behinds=(("g", "f"),))
        self.assertEqual(onward(program, ("y",), ("x", None)), ((("x", None), False), ("y",)))
        self.assertEqual(onward(program, ("y",), (None, None)), ((("y", None), False), ("y",)))
        self.assertEqual(onward(program, ("y",), ("x", "1")), ((("x", "1"), True), ("x",)))
        # Marked behind the fill it still gives.
        program = of(("f", "fill", "a", ()), ("g", "given", "b"), behinds=(("f", "g"),))
        self.assertEqual(onward(program, ("y",), ("x", None)), ((("x", None), False), ("x",)))

    def test_fills_in_order_of_a_worth_that_a_step_puts(self):
        program = of(("p", "put", "b", "7"), ("f", "fill", "a", ()), ("h", "fill", "b", ()), behinds=(("p", "h"),))
        self.assertEqual(onward(program, (None, None), ("x", None)), ((("x", "7"), True), ("x", "7")))
        self.assertEqual(onward(program, ("y", "1"), (None, "2")), ((("y", "2"), True), ("y", "2")))
        # A fill gives the worth as it is ahead of it: one that was filled gives no other.
        program = of(("f", "fill", "a", ()), ("p", "put", "a", "z"), behinds=(("f", "p"),))
        self.assertEqual(onward(program, (None,), (None, None)), ((("z", None), True), (None,)))
        self.assertEqual(onward(program, ("y",), (None, None)), ((("y", None), True), ("y",)))

    def test_numbers(self):
        program = of(("r", "read", "a", ("whole",), "n"), ("f", "fill", "n", ()), behinds=(("r", "f"),))
        self.assertEqual(onward(program, (None,), ("7", None)), ((("7", None, 7), True), (7,)))
        self.assertEqual(onward(program, (7,), (None, None)), (((None, None, 7), True), (7,)))
        self.assertEqual(onward(program, (7,), ("x", None)), ((("x", None, 7), False), (7,)))

    def test_row_by_row_as_run(self):
        rng = random.Random(2)
        for program in drawn_programs(120):
            fills = sum(step[1] == "fill" for step in program[1][0][2])
            rows = [tuple(rng.choice([None, "x", "1", "a b", "2"]) for _ in "ab") for _ in range(8)]
            text = ""
            for row in rows:
                text = add_row(AB, text, row)
            (_, wanted, _), = run(program, (("q", ""), ("s", text)))
            state = (None,) * fills
            for row, (_, worths, marks) in zip(rows, wanted, strict=True):
                kept = state
                told, state = onward(program, kept, row)
                self.assertEqual(told, (worths, not marks))
                self.assertEqual(onward(program, kept, row), (told, state))
                self.assertIs(type(told[1]), bool)
                self.assertEqual(len(state), fills)


def drawn_programs(many):
    """Programs that go row by row, without clashes."""
    rng = random.Random(7)
    programs = []
    while len(programs) < many:
        steps, pool = [], [
            ("fill", "a", ()), ("fill", "a", ()), ("fill", "b", ()), ("given", "a"), ("given", "b"), ("put", "a", "x"),
            ("put", "b", "1"), ("among", "a", ("1", "x")), ("within", "b", "1", "2"), ("before", "b", "a"),
            ("spell", "a", (("1", "x"), ("x", None))), ("read", "b", ("whole",), "n"), ("cut", "a", " ", ("m", "k")),
            ("glue", ("b", "a"), " ", "w")]
        for place in range(rng.randint(0, 5)):
            steps.append(("abcdef"[place], *rng.choice(pool)))
        program = of(*steps)
        if look_program(program) is None:
            behinds = tuple(sorted({(one, other) for _, one, other, _ in clashes(program)}))
            programs.append(of(*steps, behinds=behinds))
    return programs


def all_rows(worths):
    return list(itertools.product(*worths))


def by_texts(one, other, worths, longest):
    """The first rows behind which both don't tell the same, by run of all texts of at most so many rows."""
    for many in range(1, longest + 1):
        for rows in itertools.product(all_rows(worths), repeat=many):
            text = ""
            for row in rows:
                text = add_row(AB, text, row)
            told = []
            for program in (one, other):
                (_, made, _), = run(program, (("q", ""), ("s", text)))
                told.append(made[-1][1] if not made[-1][2] else "not there")
            if told[0] != told[1]:
                return ("parted", rows)
    return None


class AlikeByRows(unittest.TestCase):

    def told(self, one, other, wanted, worths=WORTHS):
        self.assertEqual(columns_of(one, "t"), columns_of(other, "t"))
        told = alike_by_rows(one, other, worths)
        self.assertEqual(told, wanted)
        self.assertEqual(shows_alike(one, other, worths, told[1]), told[0] == "alike")
        self.assertEqual(by_texts(one, other, worths, 3), None if told[0] == "alike" else told)

    def test_without_fills_there_is_one_pair(self):
        self.told(of(), of(), ("alike", (((), ()),)))
        self.told(PUT, of(("p", "put", "a", "x"), ("c", "spell", "b", ())), ("alike", (((), ()),)))

    def test_pairs_rise_by_ranks(self):
        self.told(FILL, FILL, ("alike", (((None,), (None,)), (("x",), ("x",)))))
        self.told(FILL, FILL, ("alike", (((None,), (None,)), (("x",), ("x",)), (("y",), ("y",)))),
                  (("y", None, "x"), ("1",)))
        self.told(TWO, TWO, ("alike", (
            ((None, None), (None, None)), ((None, "1"), (None, "1")), (("x", None), ("x", None)),
            (("x", "1"), ("x", "1")))))
        number = of(("r", "read", "a", ("whole",), "n"), ("f", "fill", "n", ()), behinds=(("r", "f"),))
        self.told(number, number, ("alike", (((None,), (None,)), ((-3,), (-3,)), ((2,), (2,)), ((10,), (10,)))),
                  (("2", "10", "-3"), (None,)))

    def test_the_first_pair_stands_there_though_no_row_comes_back_to_it(self):
        self.told(of(("p", "put", "a", "x"), ("f", "fill", "a", ()), behinds=(("p", "f"),)),
                  of(("p", "put", "a", "x"), ("c", "spell", "b", ())), ("alike", (((None,), ()), (("x",), ()))))

    def test_of_unlike_states(self):
        """A put ahead of the fill leaves it nothing to give; one behind it lets it give None alone."""
        one = of(("p", "put", "a", "x"), ("f", "fill", "a", ()), behinds=(("p", "f"),))
        other = of(("f", "fill", "a", ()), ("p", "put", "a", "x"), behinds=(("f", "p"),))
        self.told(one, other, ("alike", (
            ((None,), (None,)), (("x",), (None,)), (("x",), ("x",)))))
        self.told(one, other, ("parted", (("y", "1"), (None, "1"))), (("y", None), ("1",)))

    def test_parted_by_the_shortest_and_of_these_the_least(self):
        self.told(of(), PUT, ("parted", ((None, "1"),)))
        self.told(of(), of(("g", "given", "a")), ("parted", ((None, "1"),)))
        self.told(of(), of(("g", "given", "b")), ("parted", (("x", None),)))
        self.told(of(), FILL, ("parted", (("x", "1"), (None, "1"))))
        self.told(FILL, PUT, ("parted", ((None, "1"),)))
        # As worths stand: None ahead of x.
        self.told(of(), FILL, ("parted", (("x", None), (None, None))), ((None, "x"), (None, "1")))
        self.told(of(), FILL, ("parted", (("y", "1"), (None, "1"))), (("y", "x", None), ("1",)))

    def test_of_several_rows(self):
        # The second fill gives b of a row that has a, which one alone sees as it is marked without.
        one = of(("g", "given", "a"), ("f", "fill", "b", ()), behinds=(("g", "f"),))
        self.told(one, of(("f", "fill", "b", ()), ("g", "given", "a"), behinds=(("f", "g"),)),
                  ("parted", ((None, "1"), ("x", None))))

    def test_rows_that_both_do_not_tell_are_alike(self):
        one = of(("g", "given", "a"), ("p", "put", "b", "1"))
        other = of(("g", "given", "a"))
        self.told(one, other, ("alike", (((), ()),)), (("x", None), ("1",)))
        self.told(one, other, ("parted", (("x", None),)))
        # Both mark the row; what it has is not told.
        self.told(of(("g", "given", "a"), ("p", "spell", "b", (("1", "2"),))),
                  of(("g", "given", "a"), ("p", "spell", "b", (("1", "3"),))), ("alike", (((), ()),)),
                  ((None,), ("1",)))

    def test_against_run_of_all_short_texts(self):
        counts = {"alike": 0, "parted": 0}
        programs = drawn_programs(160)
        for one in programs:
            for other in programs:
                if one < other and columns_of(one, "t") == columns_of(other, "t"):
                    told = alike_by_rows(one, other, WORTHS)
                    counts[told[0]] += 1
                    if (counts["alike"] + counts["parted"]) % 15 == 0 or told[0] == "alike" and counts["alike"] < 40:
                        wanted = by_texts(one, other, WORTHS, 3)
                        self.assertEqual(wanted, told if told[0] == "parted" and len(told[1]) < 4 else None)
                    if told[0] == "alike":
                        self.assertIs(shows_alike(one, other, WORTHS, told[1]), True)
        self.assertGreater(min(counts.values()), 40)

    def test_pairs_are_all_that_rows_lead_to(self):
        for program in drawn_programs(60):
            word, pairs = alike_by_rows(program, program, WORTHS)
            self.assertEqual(word, "alike")
            states = {(None,) * len(pairs[0][0])}
            while True:
                more = states | {onward(program, state, row)[1] for state in states for row in all_rows(WORTHS)}
                if more == states:
                    break
                states = more
            self.assertEqual({one for one, _ in pairs}, states)
            self.assertTrue(all(one == other for one, other in pairs))

    def test_as_spans_tell(self):
        for one, other in itertools.combinations(drawn_programs(40), 2):
            if columns_of(one, "t") == columns_of(other, "t"):
                told = alike_by_rows(one, other, WORTHS)
                spans = (("s", WORTHS, 2), ("q", ((None,), (None,)), 0))
                word, many = alike(one, other, ("t",), spans)
                if told[0] == "alike":
                    self.assertEqual((word, many), ("alike", 21))
                elif len(told[1]) <= 2:
                    self.assertEqual(word, "parted")

    def test_by_names_and_again(self):
        wanted = alike_by_rows(FILL, FILL, WORTHS)
        self.assertEqual(alike_by_rows(worths=WORTHS, other=FILL, one=FILL), wanted)
        self.assertIs(shows_alike(thing=wanted[1], worths=WORTHS, other=FILL, one=FILL), True)


class ShowsAlike(unittest.TestCase):

    PAIRS = (((None, None), (None, None)), ((None, "1"), (None, "1")), (("x", None), ("x", None)),
             (("x", "1"), ("x", "1")))

    def shows(self, thing, one=TWO, other=TWO, worths=WORTHS):
        return shows_alike(one, other, worths, thing)

    def test_the_pairs(self):
        self.assertEqual(alike_by_rows(TWO, TWO, WORTHS), ("alike", self.PAIRS))
        self.assertIs(self.shows(self.PAIRS), True)

    def test_more_pairs_than_rows_lead_to(self):
        """Pairs from which each row leads to one of them may be there, too."""
        more = self.PAIRS + ((("y", "1"), ("y", "1")),)
        self.assertIs(self.shows(more), True)
        self.assertIs(self.shows(self.PAIRS + ((("y", "1"), ("z", "1")),)), False)
        # Of (y, None) a row leads to (y, 1), which isn't there.
        self.assertIs(self.shows(self.PAIRS + ((("y", None), ("y", None)),)), False)
        self.assertIs(self.shows(self.PAIRS + ((("y", None), ("y", None)), (("y", "1"), ("y", "1")))), True)

    def test_each_pair_out(self):
        for place in range(4):
            self.assertIs(self.shows(self.PAIRS[:place] + self.PAIRS[place + 1:]), False)
        self.assertIs(self.shows(()), False)

    def test_pairs_twice_or_exchanged(self):
        for one in range(4):
            twice = self.PAIRS[:one + 1] + self.PAIRS[one:]
            self.assertIs(self.shows(twice), False)
            for other in range(one + 1, 4):
                pairs = list(self.PAIRS)
                pairs[one], pairs[other] = pairs[other], pairs[one]
                self.assertIs(self.shows(tuple(pairs)), False)
        self.assertIs(self.shows(self.PAIRS[::-1]), False)

    def test_states_longer_or_shorter(self):
        for one in [(), (None,), (None, None, None)]:
            for other in [(), (None,), (None, None), (None, None, None)]:
                self.assertIs(self.shows(((one, other),) + self.PAIRS[1:]), False)
        # They would lead to themselves alone.
        for pair in [((None, None), (None, None)), ((None,), (None, None)), ((None, None), (None,))]:
            self.assertIs(self.shows((((None,), (None,)), pair), FILL, FILL, ((None,), ("1",))), False)
        for pair in [((), ()), ((None,), ()), ((), (None,))]:
            self.assertIs(self.shows((pair, ((None,), (None,))), FILL, FILL, ((None,), ("1",))), False)
        self.assertIs(self.shows(((None, None),) + self.PAIRS[1:]), False)
        self.assertIs(self.shows((self.PAIRS[0] + ((None, None),),) + self.PAIRS[1:]), False)

    def test_of_anything(self):
        for thing in [*ODD_KINDS, None, 0, "", "alike", ("alike", self.PAIRS), list(self.PAIRS), nested((), 15),
                      ((),), (((), ()),), self.PAIRS[0]]:
            self.assertIs(self.shows(thing), False)
        for thing in [*ODD_KINDS, None, 0, "", ((),), ((), ()), [((), ())], ([(), ()],), (([], ()),), (((), []),)]:
            self.assertIs(self.shows(thing, of(), of()), False, thing)
        self.assertIs(self.shows((((), ()),), of(), of()), True)

    def test_each_part_otherwise(self):
        for path, part in parts_of(self.PAIRS):
            others = [None, 0, 1, True, False, "x", "z", "", " x", "x\n", (), (None,), ("x",), [], Stubborn(), Agreeing(),
                      {}, 1j, b"x"]
            if isinstance(part, tuple):
                others += [list(part), part[:-1], part[1:], part + (None,), part + part[-1:], part[::-1]]
            if isinstance(part, str):
                others += [part + "x", (part,), part.encode(), [part]]
            for other in others:
                thing = replaced(self.PAIRS, path, other)
                self.assertIs(self.shows(thing), repr(thing) == repr(self.PAIRS), thing)

    def test_worths_of_another_kind_than_the_column(self):
        for worth in [0, 7, -1]:
            self.assertIs(self.shows(self.PAIRS + (((worth, "1"), (worth, "1")),)), False)
            self.assertIs(self.shows((((None,), (None,)), ((worth,), (worth,))), FILL, FILL, ((None,), (None,))), False)
        number = of(("r", "read", "a", ("whole",), "n"), ("f", "fill", "n", ()), behinds=(("r", "f"),))
        worths = (("1", None), (None,))
        pairs = (((None,), (None,)), ((1,), (1,)))
        self.assertEqual(alike_by_rows(number, number, worths), ("alike", pairs))
        self.assertIs(self.shows(pairs, number, number, worths), True)
        self.assertIs(self.shows((pairs[0], ((True,), (True,))), number, number, worths), False)
        self.assertIs(self.shows((pairs[0], (("1",), ("1",))), number, number, worths), False)
        self.assertIs(self.shows((pairs[0], ((1,), (True,))), number, number, worths), False)

    def test_programs_that_are_parted(self):
        self.assertIs(self.shows((((), ()),), of(), PUT), False)
        self.assertIs(self.shows((((), ()),), of(), PUT, (("x",), ("1",))), True)
        self.assertIs(self.shows((((), (None,)), ((), ("x",))), of(), FILL), False)
        self.assertIs(self.shows((((), (None,)),), of(), FILL), False)
        # Without a row of None no fill is seen.
        self.assertIs(self.shows((((), (None,)), ((), ("x",))), of(), FILL, (("x",), ("1",))), True)

    def test_each_row_is_looked_at_from_each_pair(self):
        self.assertIs(self.shows((((None,), (None,)),), FILL, FILL, ((None,), ("1",))), True)
        self.assertIs(self.shows((((None,), (None,)),), FILL, FILL, ((None, "x"), ("1",))), False)

    def test_clashes(self):
        clash = of(("z", "put", "a", "x"), ("b", "given", "a"))
        for one, other in [(clash, of()), (of(), clash), (clash, clash)]:
            for thing in [(((), ()),), None, ()]:
                self.assertIs(self.shows(thing, one, other), False)
        clean = of(("z", "put", "a", "x"), ("b", "given", "a"), behinds=(("z", "b"),))
        self.assertIs(self.shows((((), ()),), clean, clean), True)
        self.assertIs(self.shows((((), ()),), clean, clash), False)
        self.assertIs(self.shows((((), ()),), clash, clean), False)

    def test_what_is_handed_in_stays(self):
        thing = [list(pair) for pair in self.PAIRS]
        kept = [list(pair) for pair in self.PAIRS]
        self.shows(thing)
        self.assertEqual(thing, kept)


if __name__ == "__main__":
    unittest.main()
