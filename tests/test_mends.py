import itertools
import random
import unittest

from cleanedtables.cells import put_cell
from cleanedtables.choices import choices_of, least_hit
from cleanedtables.errors import Clash
from cleanedtables.lines import lines_of
from cleanedtables.mends import mend, put_offers, shows_mend
from cleanedtables.running import run
from tests.oracle import Tables
from tests.samples import FULL, FULL_TEXTS, Drawn
from tests.test_asking import ABC, s
from tests.test_ledgers import made_of
from tests.test_traces import parts_of, replaced
from tests.things import ODD_KINDS, Agreeing, Stubborn, nested

SOURCES = (("s", ABC), ("q", ("named", ";", ("d", "e"))))


def q(number):
    return ("q", number)


def all_choices(offers):
    """All choices of offers, in order."""
    choices = []
    for many in range(len(offers) + 1):
        for choice in itertools.combinations(range(len(offers)), many):
            cells = [offers[number][:2] for number in choice]
            if len(set(cells)) == len(cells):
                choices.append((sum(offers[number][3] for number in choice), choice))
    return [choice for _, choice in sorted(choices)]


def marks_by_oracle(program, texts, table):
    above = [table]
    for name in above:
        above += made_of(next(one for one in program[1] if one[0] == name))
    tables = Tables(program, texts)
    return [(name, row, step) for name, _, _, _ in program[1] if name in above
            for row in tables.rows[name] for step in tables.states[name][-1][row][1]]


def mend_by_oracle(program, texts, table, offers):
    tried = []
    for choice in all_choices(offers):
        told = dict(texts)
        for number in choice:
            (source, row), column, worth, _ = offers[number]
            told[source] = put_cell(dict(program[0])[source], told[source], row, column, worth)
        marks = marks_by_oracle(program, tuple(sorted(told.items())), table)
        if not marks:
            cost = sum(offers[number][3] for number in choice)
            return ("mended", choice, cost, tuple((other, left[0]) for other, left in tried))
        tried.append((choice, marks))
    marks = list(dict.fromkeys(mark for _, left in tried for mark in left))
    for many in range(1, len(marks) + 1):
        for picked in itertools.combinations(marks, many):
            if all(set(picked) & set(left) for _, left in tried):
                return ("stuck", picked)


class Mends(unittest.TestCase):

    def mended(self, steps, rows, offers, wanted, *, behinds=(), tables=(), table="t", others=""):
        program = (SOURCES, (("k", ("of", "q"), (("w", "given", "e"),), ()), ("t", ("of", "s"), steps, behinds),
                             *tables))
        texts = (("q", others), ("s", rows))
        told = mend(program, texts, table, offers)
        self.assertEqual(told, wanted)
        self.assertEqual(told, mend_by_oracle(program, texts, table, offers))
        self.assertIs(shows_mend(program, texts, table, offers, told), True)

    GIVEN = (("g", "given", "b"),)

    def test_mended_already(self):
        self.mended((), "x,1,\n", (), ("mended", (), 0, ()))
        self.mended(self.GIVEN, "x,1,\n", (), ("mended", (), 0, ()))
        self.mended(self.GIVEN, "x,1,\n", ((s(0), "b", "2", 1),), ("mended", (), 0, ()))
        self.mended(self.GIVEN, "", (), ("mended", (), 0, ()))

    def test_no_offer(self):
        self.mended(self.GIVEN, "x,1,\ny,,\nz,,\n", (), ("stuck", (("t", s(1), "g"),)))

    def test_one_offer(self):
        self.mended(self.GIVEN, "x,1,\ny,,\n", ((s(1), "b", "2", 7),), ("mended", (0,), 7, (((), ("t", s(1), "g")),)))
        self.mended(self.GIVEN, "x,1,\ny,,\n", ((s(1), "c", "2", 7),), ("stuck", (("t", s(1), "g"),)))
        self.mended(self.GIVEN, "x,1,\ny,,\n", ((s(1), "b", None, 7),), ("stuck", (("t", s(1), "g"),)))

    def test_the_cheapest(self):
        offers = ((s(0), "b", "2", 9), (s(0), "b", "3", 4), (s(0), "b", "4", 5))
        self.mended(self.GIVEN, "x,,\n", offers, ("mended", (1,), 4, (((), ("t", s(0), "g")),)))

    def test_of_like_cost_as_tuples_rise(self):
        offers = ((s(0), "c", "2", 3), (s(0), "b", "3", 3), (s(0), "b", "4", 3))
        self.mended(self.GIVEN, "x,,\n", offers,
                    ("mended", (1,), 3, (((), ("t", s(0), "g")), ((0,), ("t", s(0), "g")))))
        # Two of 2 come ahead of one of 4 where they rise ahead of it.
        offers = ((s(0), "a", "2", 2), (s(0), "b", "3", 2), (s(0), "b", "4", 4))
        steps = (("g", "given", "b"), ("h", "given", "a"))
        self.mended(steps, ",,\n", offers, ("mended", (0, 1), 4, (
            ((), ("t", s(0), "g")), ((0,), ("t", s(0), "g")), ((1,), ("t", s(0), "h")))))
        offers = ((s(0), "b", "3", 4), (s(0), "b", "4", 2), (s(0), "c", "2", 2))
        self.mended(self.GIVEN, "x,,\n", offers, ("mended", (1,), 2, (((), ("t", s(0), "g")),)))

    def test_several_offers_with_a_paper_of_all_ahead(self):
        offers = ((s(0), "b", "2", 1), (s(1), "b", "2", 5), (s(2), "b", "2", 1))
        self.mended(self.GIVEN, "x,,\ny,,\nz,1,\n", offers, ("mended", (0, 1), 6, (
            ((), ("t", s(0), "g")), ((0,), ("t", s(1), "g")), ((2,), ("t", s(0), "g")), ((0, 2), ("t", s(1), "g")),
            ((1,), ("t", s(0), "g")))))

    def test_the_first_mark_of_tables_rows_and_steps(self):
        steps = (("z", "given", "b"), ("y", "given", "c"))
        self.mended(steps, "x,1,1\nx,,\n", ((s(1), "c", "1", 1), (s(1), "b", "1", 1)), ("mended", (0, 1), 2, (
            ((), ("t", s(1), "y")), ((0,), ("t", s(1), "z")), ((1,), ("t", s(1), "y")))))
        join = ("j", ("join", "t", "k", (("a", "d"),)), (("c", "given", "c"),), ())
        self.mended((("g", "given", "b"),), "x,1,\nx,,\n", ((q(0), "e", "1", 1), (s(1), "b", "1", 1)),
                    ("stuck", (("k", q(0), "w"), ("j", (s(0), q(0)), "c"))), tables=(join,), table="j",
                    others="d=x;e=\n")

    def test_two_offers_of_one_cell_are_never_put_together(self):
        steps = (("g", "given", "b"), ("m", "among", "b", ("1", "3")))
        offers = ((s(0), "b", "2", 1), (s(0), "b", "3", 1))
        self.mended(steps, "x,,\n", offers, ("mended", (1,), 1, (((), ("t", s(0), "g")), ((0,), ("t", s(0), "m")))))
        self.assertEqual(choices_of(offers), [(), (0,), (1,)])
        offers = ((s(0), "b", "2", 1), (s(0), "b", "4", 1))
        self.mended(steps, "x,,\n", offers, ("stuck", (("t", s(0), "g"), ("t", s(0), "m"))))
        # Of other rows, columns or sources it is another cell.
        offers = ((s(0), "b", "2", 1), (s(1), "b", "2", 1), (s(0), "c", "2", 1), (s(0), "b", "3", 1))
        self.assertEqual(choices_of(offers), all_choices(offers))
        self.assertNotIn((0, 3), choices_of(offers))
        self.assertIn((0, 1, 2), choices_of(offers))

    def test_tables_made_of_are_mended_too_and_no_others(self):
        group = ("gr", ("group", "t", ("a",), (("n", "count", None),)), (("two", "within", "n", 2, 9),), ())
        other = ("o", ("of", "s"), (("never", "given", "c"),), ())
        self.mended(self.GIVEN, "x,1,\nx,,\n", ((s(1), "b", "1", 3),),
                    ("mended", (0,), 3, (((), ("t", s(1), "g")),)), tables=(group, other), table="gr", others="d=1\n")
        self.mended(self.GIVEN, "x,1,\nx,,\n", ((s(1), "b", "1", 3),),
                    ("mended", (0,), 3, (((), ("t", s(1), "g")),)), tables=(group, other))
        self.mended(self.GIVEN, "x,1,\nx,,\n", (), ("stuck", (("o", s(0), "never"),)), tables=(group, other),
                    table="o")

    def test_tables_in_which_a_step_looks_are_not_mended(self):
        look = ("o", ("of", "s"), (("l", "look", "a", "k", "d", "d", "new"),), ())
        # A row of k that is marked is of no look, but its marks are not asked for.
        self.mended((), "x,,\n", ((q(0), "d", "x", 1),), ("mended", (0,), 1, (((), ("o", s(0), "l")),)),
                    tables=(look,), table="o", others="d=y;e=1\nd=z\n")

    def test_an_offer_that_leaves_marks_of_its_own(self):
        steps = (("g", "given", "b"), ("u", "unlike", ("a",)))
        self.mended(steps, "x,,\ny,,\n", ((s(0), "b", "1", 1), (s(1), "b", "1", 1), (s(1), "a", "x", 1)),
                    ("mended", (0, 1), 2, (
                        ((), ("t", s(0), "g")), ((0,), ("t", s(1), "g")), ((1,), ("t", s(0), "g")),
                        ((2,), ("t", s(0), "g")))), behinds=(("g", "u"),))

    def test_stuck_by_the_shortest(self):
        steps = (("g", "given", "b"), ("h", "given", "c"))
        self.mended(steps, ",,\n,,\n", ((s(0), "b", "1", 1), (s(1), "b", "1", 1)), ("stuck", (("t", s(0), "h"),)))
        self.mended(steps, ",,1\n,,\n", ((s(0), "b", "1", 1), (s(1), "b", "1", 1)), ("stuck", (("t", s(1), "h"),)))

    def test_stuck_by_several(self):
        steps = (("b", "before", "a", "b"), ("w", "within", "a", "a", "m"))
        # Either it isn't before b, or it is above m.
        self.mended(steps, "c,b,\n", ((s(0), "a", "z", 1), (s(0), "b", "zz", 2), (s(0), "a", "y", 5)),
                    ("mended", (1,), 2, (((), ("t", s(0), "b")), ((0,), ("t", s(0), "b")))))
        self.mended(steps, "z,b,\n", ((s(0), "a", "c", 1), (s(0), "b", "zz", 2), (s(0), "a", "d", 9)),
                    ("mended", (0, 1), 3, (((), ("t", s(0), "b")), ((0,), ("t", s(0), "b")), ((1,), ("t", s(0), "w")))))
        self.mended(steps, "z,b,\n", ((s(0), "a", "c", 1), (s(0), "a", "d", 9)), ("stuck", (("t", s(0), "b"),)))
        self.mended((("x", "among", "a", ("p",)), ("y", "among", "a", ("q",))), "p,,\nq,,\n", ((s(0), "a", "q", 1),),
                    ("stuck", (("t", s(1), "x"),)))
        self.mended((("x", "among", "a", ("p",)), ("y", "among", "a", ("q",))), "p,,\n", ((s(0), "a", "q", 1),),
                    ("stuck", (("t", s(0), "y"), ("t", s(0), "x"))))

    def test_of_the_shortest_the_least_by_the_numbers_as_marks_first_come(self):
        steps = (("b", "given", "b"), ("a", "given", "a"))
        # As told, a comes ahead of b; rows stand ahead of steps.
        self.mended(steps, ",,\n,,\n", (), ("stuck", (("t", s(0), "a"),)))
        self.mended(steps, ",,\n,,\n", ((s(0), "a", "x", 2), (s(0), "b", "x", 1)), ("stuck", (("t", s(1), "a"),)))
        self.mended(steps, ",,\n,1,\n", ((s(0), "a", "x", 2), (s(0), "b", "x", 1)), ("stuck", (("t", s(1), "a"),)))

    def test_marks_numbered_as_they_first_come_and_not_as_rows_stand(self):
        # (0,) leaves u at row 2, which comes behind the marks of the empty choice; (1,) one at row 1.
        steps = (("m", "among", "a", ("x", "y", "z")), ("u", "unlike", ("a",)))
        offers = ((s(0), "a", "z", 1), (s(0), "a", "y", 2))
        self.mended(steps, "w,,\ny,,\nz,,\n", offers, ("stuck", (("t", s(0), "m"), ("t", s(2), "u"), ("t", s(1), "u"))),
                    behinds=(("m", "u"),))

    def test_the_full_sample(self):
        offers = ((("bills", 4), "day", "20.2.2024", 3), (("bills", 4), "who", "abt zoe", 2),
                  (("bills", 6), "sum", "7", 5), (("bills", 9), "day", "1.1.2001", 1), (("bills", 9), "who", None, 1))
        for table in ["town", "paid", "both", "wide"]:
            told = mend(FULL, FULL_TEXTS, table, offers)
            self.assertEqual(told, mend_by_oracle(FULL, FULL_TEXTS, table, offers))
            self.assertIs(shows_mend(FULL, FULL_TEXTS, table, offers, told), True)

    def test_against_the_oracle(self):
        counts = {"stuck": 0, "mended": 0}
        longest = 0
        for seed in range(400):
            program, texts, table, offers = drawn_offers(seed)
            told = mend(program, texts, table, offers)
            self.assertEqual(told, mend_by_oracle(program, texts, table, offers), seed)
            counts[told[0]] += 1 if told[1:] != ((), 0, ()) else 0
            longest = max(longest, len(told[1]))
        self.assertGreater(min(counts.values()), 50)
        self.assertGreater(longest, 2)

    def test_no_cheaper_choice_and_each_mark_is_there(self):
        for seed in range(400):
            program, texts, table, offers = drawn_offers(seed)
            told = mend(program, texts, table, offers)
            if told[0] == "stuck":
                for choice in all_choices(offers):
                    marks = marks_by_run(program, put_offers(program, texts, offers, choice))
                    self.assertTrue(set(told[1]) & set(marks))
                continue
            _, choice, cost, paper = told
            self.assertEqual(sum(offers[number][3] for number in choice), cost)
            ahead = all_choices(offers)
            self.assertEqual([other for other, _ in paper], ahead[:ahead.index(choice)])
            for other, mark in paper:
                self.assertIn(mark, marks_by_run(program, put_offers(program, texts, offers, other)))
            # Put, it mends: so with no offers it is mended.
            again = mend(program, put_offers(program, texts, offers, choice), table, ())
            self.assertEqual(again, ("mended", (), 0, ()))

    def test_by_names_and_again(self):
        program, texts, table, offers = drawn_offers(3)
        wanted = mend(program, texts, table, offers)
        self.assertEqual(mend(offers=offers, table=table, texts=texts, program=program), wanted)
        self.assertIs(shows_mend(thing=wanted, offers=offers, table=table, texts=texts, program=program), True)
        self.assertEqual(put_offers(choice=(), offers=offers, texts=texts, program=program), texts)


def marks_by_run(program, texts):
    return [(name, row, mark) for name, rows, _ in run(program, texts) for row, _, marks in rows for mark in marks]


WISHES = (
    ("ga", "given", "a"), ("gb", "given", "b"), ("ma", "among", "a", ("p", "q")), ("mb", "among", "b", ("q", "r")),
    ("ab", "before", "a", "b"), ("wb", "within", "b", "p", "q"), ("ua", "unlike", ("a",)), ("ub", "unlike", ("a", "b")))


def drawn_offers(seed):
    """A program of a few wishes, or any drawn one, with texts, a table and offers to cells."""
    rng = random.Random(seed)
    if seed % 4 == 0:
        drawn = Drawn(seed)
        program = drawn.program
        texts = tuple((name, "".join(row + "\n" for row in text.split("\n")[:3])) for name, text in drawn.texts)
    else:
        steps = tuple(sorted(rng.sample(WISHES[:6], rng.randint(1, 3)))) + tuple(rng.sample(WISHES[6:], seed % 2))
        behinds = tuple(sorted((step[0], steps[-1][0]) for step in steps[:-1])) if seed % 2 else ()
        group = ("gr", ("group", "t", ("a",), (("n", "count", None),)), (("two", "within", "n", 1, 2),), ())
        program = ((("s", ABC),), (("t", ("of", "s"), steps, behinds), group))
        rows = [[rng.choice(["", "p", "q", "q", "r"]) for _ in "abc"] for _ in range(rng.randint(1, 3))]
        texts = (("s", "".join(",".join(row) + "\n" for row in rows)),)
    cells = [((name, number), column) for name, shape in program[0]
             for number, line in enumerate(lines_of(shape, dict(texts)[name])) if not line[3]
             for column in shape[-1][:2] if shape[0] != "named"]
    offers = []
    for _ in range(seed % 7 if cells else 0):
        row, column = rng.choice(cells)
        worth, cost = rng.choice([None, "a", "p", "q", "q", "r", "1"]), rng.choice([1, 1, 2, 3, 50, 1000])
        offers.append((row, column, worth, cost))
    return program, texts, rng.choice(program[1])[0], tuple(offers)


class Hits(unittest.TestCase):

    def test_against_all_lists_of_numbers(self):
        rng = random.Random(5)
        for _ in range(400):
            most = rng.choice([3, 6, 9])
            groups = [rng.sample(range(most), rng.randint(1, min(most, rng.choice([1, 2, 3, 5]))))
                      for _ in range(rng.randint(1, 12))]
            wanted = next(list(picked) for many in range(most + 1)
                          for picked in itertools.combinations(range(most), many)
                          if all(set(picked) & set(group) for group in groups))
            self.assertEqual(least_hit(groups), wanted, groups)

    def test_many_groups(self):
        rng = random.Random(6)
        groups = [rng.sample(range(40), rng.randint(3, 12)) for _ in range(256)]
        hit = least_hit(groups)
        self.assertTrue(all(set(hit) & set(group) for group in groups))


class Put(unittest.TestCase):

    def test_texts_with_the_offers_of_a_choice(self):
        offers = ((s(1), "b", "p,q", 5), (q(0), "e", None, 1), (s(1), "b", "no", 1), (s(0), "a", None, 1))
        texts = (("q", "d=1;e= z \nd=2\n"), ("s", "x,1,\ny,2,3"))
        program = (SOURCES, (("t", ("of", "s"), (), ()),))
        self.assertEqual(put_offers(program, texts, offers, ()), texts)
        self.assertEqual(put_offers(program, texts, offers, (0, 1, 3)),
                         (("q", "d=1;e=\nd=2\n"), ("s", ',1,\ny,"p,q",3')))
        self.assertEqual(put_offers(program, texts, offers, (2,)), (texts[0], ("s", "x,1,\ny,no,3")))

    def test_short_rows_of_places(self):
        program = ((("p", ("places", (2, 2, 2), ("f", "g", "h"))),), (("t", ("of", "p"), (), ()),))
        offers = ((("p", 0), "h", "z", 1), (("p", 0), "g", "y", 1))
        self.assertEqual(put_offers(program, (("p", "x\n"),), offers, (0,)), (("p", "x   z \n"),))
        self.assertEqual(put_offers(program, (("p", "x\n"),), offers, (0, 1)), (("p", "x y z \n"),))

    def test_of_programs_with_clashes_too(self):
        steps = (("z", "put", "a", "x"), ("b", "given", "a"))
        program = (SOURCES, (("t", ("of", "s"), steps, ()),))
        self.assertEqual(put_offers(program, (("q", ""), ("s", "x,,\n")), ((s(0), "a", "y", 1),), (0,)),
                         (("q", ""), ("s", "y,,\n")))


class Shown(unittest.TestCase):

    STEPS = (("g", "given", "b"), ("m", "among", "a", ("p", "x")))
    PROGRAM = (SOURCES, (("k", ("of", "q"), (), ()), ("t", ("of", "s"), STEPS, ())))
    TEXTS = (("q", "d=1\n"), ("s", "x,,\ny,1,\np,2,\n"))
    OFFERS = ((s(0), "b", "1", 2), (s(1), "a", "p", 1), (s(1), "a", "o", 1))
    CASES = [("t", OFFERS), ("t", OFFERS[:1]), ("t", ()), ("k", OFFERS)]

    def check(self, table, offers, thing):
        wanted = repr(thing) == repr(mend(self.PROGRAM, self.TEXTS, table, offers))
        self.assertIs(shows_mend(self.PROGRAM, self.TEXTS, table, offers, thing), wanted, thing)

    def test_what_mend_tells(self):
        self.assertEqual([mend(self.PROGRAM, self.TEXTS, *case)[0] for case in self.CASES],
                         ["mended", "stuck", "stuck", "mended"])
        for case in self.CASES:
            told = mend(self.PROGRAM, self.TEXTS, *case)
            self.assertIs(shows_mend(self.PROGRAM, self.TEXTS, *case, told), True)
            for other in self.CASES:
                self.check(*case, mend(self.PROGRAM, self.TEXTS, *other))

    def test_of_anything(self):
        for case in self.CASES:
            for thing in [*ODD_KINDS, None, 0, "", "mended", ("mended",), ("stuck",), ("stuck", ()), ("mended", ()),
                          ("mended", (), 0), ("mended", [], 0, []), nested("stuck", 15)]:
                self.assertIs(shows_mend(self.PROGRAM, self.TEXTS, *case, thing), False)

    def test_each_part_otherwise(self):
        for case in self.CASES:
            told = mend(self.PROGRAM, self.TEXTS, *case)
            for path, part in parts_of(told):
                others = [None, 0, 1, True, False, "x", (), (None,), ("x",), [], Stubborn(), Agreeing(), {}]
                if isinstance(part, tuple):
                    others += [list(part), part[:-1], part[1:], part + (None,), part + part[-1:], part[::-1]]
                if isinstance(part, int):
                    others += [part + 1, part - 1, str(part), bool(part), (part,)]
                if isinstance(part, str):
                    others += [part + "x", part[:-1], (part,), part.encode()]
                for other in others:
                    self.check(*case, replaced(told, path, other))

    def test_another_choice_that_mends(self):
        self.assertEqual(mend(self.PROGRAM, self.TEXTS, "t", self.OFFERS)[:3], ("mended", (0, 1), 3))
        self.check("t", self.OFFERS, ("mended", (1, 0), 3, mend(self.PROGRAM, self.TEXTS, "t", self.OFFERS)[3]))
        # Other marks that none takes away.
        told = mend(self.PROGRAM, self.TEXTS, "t", ())
        self.assertEqual(told, ("stuck", (("t", s(0), "g"),)))
        self.check("t", (), ("stuck", (("t", s(1), "m"),)))
        self.check("t", (), ("stuck", (("t", s(0), "g"), ("t", s(1), "m"))))

    def test_what_is_handed_in_stays(self):
        made = list(mend(self.PROGRAM, self.TEXTS, "t", self.OFFERS))
        kept = list(made)
        shows_mend(self.PROGRAM, self.TEXTS, "t", self.OFFERS, made)
        self.assertEqual(made, kept)


class Refused(unittest.TestCase):

    STEPS = (("z", "put", "a", "x"), ("b", "given", "a"))
    PROGRAM = (SOURCES, (("t", ("of", "s"), STEPS, ()), ("k", ("of", "q"), (), ())))
    TEXTS = (("q", ""), ("s", "x,1,\n"))

    def test_clashes(self):
        for table in ["t", "k"]:
            with self.assertRaises(Clash) as caught:
                mend(self.PROGRAM, self.TEXTS, table, ())
            self.assertEqual(vars(caught.exception), {"table": "t", "step": "z", "other": "b", "what": "a"})
            for thing in [("mended", (), 0, ()), None, ("stuck", ())]:
                self.assertIs(shows_mend(self.PROGRAM, self.TEXTS, table, (), thing), False)


if __name__ == "__main__":
    unittest.main()
