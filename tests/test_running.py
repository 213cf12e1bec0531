import itertools
import math
import random
import unittest

from cleanedtables.orders import order_at, orders_of
from cleanedtables.programs import columns_of
from cleanedtables.running import run
from tests.oracle import Tables
from tests.samples import FULL, FULL_TEXTS, Drawn

ABC = ("signs", ",", '"', ("a", "b", "c"))


def table_of(rows, *steps, behinds=()):
    """What run tells of a table of a source a, b, c with these rows, and what is lost."""
    program = ((("s", ABC),), (("t", ("of", "s"), steps, behinds),))
    (name, told, lost), = run(program, (("s", rows),))
    assert name == "t"
    return told, lost


def worths_of(rows, *steps, behinds=()):
    return [worths for _, worths, _ in table_of(rows, *steps, behinds=behinds)[0]]


def marks_of(rows, *steps, behinds=()):
    return [marks for _, _, marks in table_of(rows, *steps, behinds=behinds)[0]]


class OfSources(unittest.TestCase):

    def test_rows_and_what_is_lost(self):
        rows, lost = table_of('x, y ,\nfew\n"p,q"," ",""\n"quote\n,,\na,b,c,d\nx,y,')
        self.assertEqual(rows, (
            (("s", 0), ("x", "y", None), ()),
            (("s", 2), ("p,q", None, None), ()),
            (("s", 4), (None, None, None), ()),
            (("s", 6), ("x", "y", None), ())))
        self.assertEqual(lost, (
            ("s", ("s", 1), "few"), ("s", ("s", 3), "quote"), ("s", ("s", 5), "many")))

    def test_sources_of_each_shape_and_more_than_one_table_of_one(self):
        sources = (("s", ABC), ("p", ("places", (2, 3), ("d", "e"))), ("n", ("named", ";", ("f", "g"))))
        tables = (("u", ("of", "n"), (), ()), ("t", ("of", "s"), (), ()), ("v", ("of", "p"), (), ()),
                  ("w", ("of", "n"), (("one", "given", "f"),), ()))
        texts = (("n", "g=1\nf=a;g= b \nh=1\n\n"), ("p", "abcde\nf\nghijklm"), ("s", "1,2,3"))
        self.assertEqual(run((sources, tables), texts), (
            ("u", ((("n", 0), (None, "1"), ()), (("n", 1), ("a", "b"), ()), (("n", 3), (None, None), ())),
             (("n", ("n", 2), "name"),)),
            ("t", ((("s", 0), ("1", "2", "3"), ()),), ()),
            ("v", ((("p", 0), ("ab", "cde"), ()), (("p", 1), ("f", None), ())), (("p", ("p", 2), "many"),)),
            ("w", ((("n", 0), (None, "1"), ("one",)), (("n", 1), ("a", "b"), ()),
                   (("n", 3), (None, None), ("one",))), (("n", ("n", 2), "name"),))))

    def test_no_rows(self):
        self.assertEqual(table_of(""), ((), ()))
        self.assertEqual(table_of("few", ("p", "unlike", ("a",)), ("q", "fill", "a", ()), behinds=(("p", "q"),)),
                         ((), (("s", ("s", 0), "few"),)))

    def test_steps_see_what_steps_ahead_make(self):
        rows, _ = table_of("1 2,x,\n3,x,\n, ,", ("q", "cut", "a", " ", ("d", "e")),
                           ("p", "read", "d", ("whole",), "n"), ("r", "within", "n", 2, 5),
                           behinds=(("p", "r"), ("q", "p")))
        self.assertEqual(rows, (
            (("s", 0), ("1 2", "x", None, "1", "2", 1), ("r",)),
            (("s", 1), ("3", "x", None, None, None, None), ("q",)),
            (("s", 2), (None, None, None, None, None, None), ())))

    def test_marks_rise(self):
        steps = [(name, "given", column) for name, column in [("z", "a"), ("b", "b"), ("m", "c"), ("a", "a")]]
        self.assertEqual(marks_of("x,,\n,,\n,x,x\nx,x,x", *steps), [
            ("b", "m"), ("a", "b", "m", "z"), ("a", "z"), ()])

    def test_steps_go_on_with_marked_rows(self):
        rows, _ = table_of("x,,", ("p", "given", "b"), ("q", "put", "b", "y"), ("r", "given", "c"),
                           ("s", "put", "c", "z"), behinds=(("p", "q"), ("r", "s")))
        self.assertEqual(rows, ((("s", 0), ("x", "y", "z"), ("p", "r")),))


class Unlike(unittest.TestCase):

    STEP = ("u", "unlike", ("a", "b"))

    def test_like_rows(self):
        self.assertEqual(marks_of("x,y,1\nx,y,2\nx,z,3\ny,y,4\nx,y,5\n", self.STEP), [(), ("u",), (), (), ("u",)])

    def test_none_is_like_nothing(self):
        self.assertEqual(marks_of("x,,\nx,,\n,,\n,,\n,y,\n,y,\n", self.STEP), [()] * 6)
        self.assertEqual(marks_of(",\n,,x\n,,x\n", ("u", "unlike", ("c",))), [(), ("u",)])

    def test_rows_that_do_not_stand(self):
        steps = [("g", "given", "c"), self.STEP]
        self.assertEqual(marks_of("x,y,\nx,y,1\nx,y,\nx,y,2\n", *steps, behinds=(("g", "u"),)), [
            ("g",), (), ("g",), ("u",)])

    def test_steps_behind_do_not_count(self):
        steps = [self.STEP, ("g", "given", "c")]
        self.assertEqual(marks_of("x,y,\nx,y,1\nx,y,\nx,y,2\n", *steps, behinds=(("u", "g"),)), [
            ("g",), ("u",), ("g", "u"), ("u",)])

    def test_like_marked_ones(self):
        steps = [self.STEP, ("w", "unlike", ("a",))]
        self.assertEqual(marks_of("x,y,\nx,y,\nx,z,\nx,w,\n", *steps, behinds=(("u", "w"),)), [
            (), ("u",), ("w",), ("w",)])

    def test_of_numbers_and_of_one_column(self):
        steps = [("r", "read", "a", ("whole",), "n"), ("u", "unlike", ("n",))]
        self.assertEqual(marks_of("1,,\n01,,\n+1,,\n2,,\nx,,\n,,\n,,\n", *steps, behinds=(("r", "u"),)), [
            (), ("u",), ("u",), (), ("r",), (), ()])


class Fill(unittest.TestCase):

    def test_from_the_nearest_row_above(self):
        self.assertEqual([worths[0] for worths in worths_of("x,,\n,,\n,,\ny,,\n,,\n", ("f", "fill", "a", ()))],
                         ["x", "x", "x", "y", "y"])

    def test_without_a_row_above(self):
        self.assertEqual([worths[0] for worths in worths_of(",,\n,,\nx,,\n,,\n", ("f", "fill", "a", ()))],
                         [None, None, "x", "x"])

    def test_like_worths_in_keys_none_as_others(self):
        step = ("f", "fill", "a", ("b", "c"))
        rows = "x,1,\ny,1,2\nz,,\nw,,2\n,1,\n,,\n,1,2\n,2,\n,,2\n"
        self.assertEqual([worths[0] for worths in worths_of(rows, step)],
                         ["x", "y", "z", "w", "x", "z", "y", None, "w"])

    def test_from_rows_that_stand(self):
        steps = [("g", "given", "b"), ("f", "fill", "a", ())]
        rows = "w,1,\nx,,\n,1,\n,,\ny,1,\n,,\n"
        self.assertEqual([worths[0] for worths in worths_of(rows, *steps, behinds=(("g", "f"),))],
                         ["w", "x", "w", "w", "y", "y"])
        self.assertEqual([worths[0] for worths in worths_of(rows, steps[1], steps[0], behinds=(("f", "g"),))],
                         ["w", "x", "x", "x", "y", "y"])

    def test_marked_rows_are_filled(self):
        rows, _ = table_of("x,1,\n,,\n", ("g", "given", "b"), ("f", "fill", "a", ()), behinds=(("g", "f"),))
        self.assertEqual(rows[1], (("s", 1), ("x", None, None), ("g",)))

    def test_a_chain_of_fills(self):
        steps = [("f", "fill", "b", ()), ("g", "fill", "a", ("b",))]
        self.assertEqual(worths_of("x,1,\n,,\ny,2,\n,1,\n,,\n", *steps, behinds=(("f", "g"),)), [
            ("x", "1", None), ("x", "1", None), ("y", "2", None), ("x", "1", None), ("x", "1", None)])

    def test_filled_ones_give_no_other_worth_than_those_above(self):
        steps = [("g", "given", "c"), ("f", "fill", "a", ("b",))]
        rows = "x,1,1\n,1,\n,1,1\n,2,1\n,1,1\n"
        self.assertEqual([worths[0] for worths in worths_of(rows, *steps, behinds=(("g", "f"),))],
                         ["x", "x", "x", None, "x"])


class Look(unittest.TestCase):

    def told(self, keys, rows, *steps, wanted="e", key="d", behinds=()):
        sources = (("k", ("signs", ",", '"', ("d", "e"))), ("s", ABC))
        tables = (("u", ("of", "k"), steps, behinds),
                  ("t", ("of", "s"), (("l", "look", "a", "u", key, wanted, "f"),), ()))
        table = run((sources, tables), (("k", keys), ("s", rows)))[1]
        return [(worths[3], marks) for _, worths, marks in table[1]]

    def test_none_one_and_two_rows(self):
        self.assertEqual(self.told("p,1\nq,2\nq,3\nr,\n,5\n", "p,,\nq,,\nr,,\nx,,\n,,\n"), [
            ("1", ()), (None, ("l",)), (None, ()), (None, ("l",)), (None, ())])
        self.assertEqual(self.told("q,2\nq,2\nq,2\n", "q,,\n"), [(None, ("l",))])
        self.assertEqual(self.told("", "q,,\n,,\n"), [(None, ("l",)), (None, ())])

    def test_only_rows_that_stand_behind_all_steps(self):
        steps = [("u", "unlike", ("d",)), ("g", "given", "e")]
        self.assertEqual(self.told("p,1\np,2\nq,\nr,\nr,4\n", "p,,\nq,,\nr,,\n", *steps, behinds=(("u", "g"),)), [
            ("1", ()), (None, ("l",)), (None, ("l",))])

    def test_worths_behind_all_steps(self):
        steps = [("r", "read", "e", ("whole",), "n"), ("f", "fill", "d", ()), ("s", "spell", "d", (("q", "z"),))]
        behinds = (("f", "s"), ("r", "f"))
        keys = "p,1\n,x\nq,3\n"
        self.assertEqual(self.told(keys, "p,,\nz,,\nq,,\n", *steps, wanted="n", behinds=behinds), [
            (1, ()), (3, ()), (None, ("l",))])

    def test_wanted_may_be_the_key(self):
        self.assertEqual(self.told("p,1\n", "p,,\nq,,\n", wanted="d"), [("p", ()), (None, ("l",))])

    def test_marked_rows_look_too(self):
        sources = (("k", ("signs", ",", '"', ("d", "e"))), ("s", ABC))
        tables = (("u", ("of", "k"), (), ()), ("t", ("of", "s"), (
            ("g", "given", "b"), ("l", "look", "a", "u", "d", "e", "f"), ("k", "given", "f")), (("l", "k"),)))
        table = run((sources, tables), (("k", "p,1\n"), ("s", "p,,\nq,,\n")))[1]
        self.assertEqual(table[1], ((("s", 0), ("p", None, None, "1"), ("g",)),
                                    (("s", 1), ("q", None, None, None), ("g", "k", "l"))))


class Made(unittest.TestCase):

    SOURCES = (("s", ABC), ("z", ("signs", ",", '"', ("d", "e"))))
    NUMBERS = (("r", "read", "c", ("whole",), "n"), ("g", "given", "a"))

    def told(self, rows, others, origin, *steps):
        """The last table: of "t", a to c and a number n, without rows that a is not given in, and "u"."""
        tables = (("t", ("of", "s"), self.NUMBERS, ()), ("u", ("of", "z"), (("w", "given", "e"),), ()),
                  ("v", origin, steps, ()))
        name, told, lost = run((self.SOURCES, tables), (("s", rows), ("z", others)))[2]
        self.assertEqual(name, "v")
        return told, lost

    def test_join(self):
        rows, lost = self.told("x,1,\ny,2,\n,1,\nx,3,\nz,,\n", "1,p\n1,q\n,r\n2,\n3,s\n4,t\n1,u\n",
                               ("join", "t", "u", (("b", "d"),)))
        s, z = [("s", number) for number in range(9)], [("z", number) for number in range(9)]
        self.assertEqual(rows, (
            ((s[0], z[0]), ("x", "1", None, None, "p"), ()), ((s[0], z[1]), ("x", "1", None, None, "q"), ()),
            ((s[0], z[6]), ("x", "1", None, None, "u"), ()), ((s[3], z[4]), ("x", "3", None, None, "s"), ())))
        self.assertEqual(lost, (
            ("t", s[1], "lone"), ("t", s[4], "lone"), ("u", z[2], "lone"), ("u", z[5], "lone")))

    def test_join_by_more_pairs(self):
        rows, lost = self.told("x,1,\nx,2,\nx,,\n", "x,1\nx,2\nx,3\n", ("join", "t", "u", (("a", "d"), ("b", "e"))))
        self.assertEqual(rows, (
            ((("s", 0), ("z", 0)), ("x", "1", None, None), ()), ((("s", 1), ("z", 1)), ("x", "2", None, None), ())))
        self.assertEqual(lost, (("t", ("s", 2), "lone"), ("u", ("z", 2), "lone")))

    def test_join_of_nothing(self):
        join = ("join", "t", "u", (("b", "d"),))
        self.assertEqual(self.told("", "", join), ((), ()))
        self.assertEqual(self.told("x,1,\n", "", join), ((), (("t", ("s", 0), "lone"),)))
        self.assertEqual(self.told("", "1,p\n", join), ((), (("u", ("z", 0), "lone"),)))

    def test_join_leaves_out_other_ones_columns_of_pairs_alone(self):
        sources = (("s", ("signs", ",", '"', ("a", "b"))), ("z", ("signs", ",", '"', ("c", "a", "e"))))
        tables = (("t", ("of", "s"), (), ()), ("u", ("of", "z"), (), ()),
                  ("v", ("join", "t", "u", (("b", "a"),)), (), ()))
        self.assertEqual(columns_of((sources, tables), "v"), tuple((column, "text") for column in "abce"))
        told = run((sources, tables), (("s", "1,2\n"), ("z", "p,2,q\n")))[2]
        self.assertEqual(told[1], (((("s", 0), ("z", 0)), ("1", "2", "p", "q"), ()),))

    def test_group(self):
        sums = (("many", "count", None), ("all", "total", "n"), ("low", "least", "n"), ("high", "most", "n"),)
        rows, lost = self.told("x,1,5\ny,1,2\nx,2,-7\n,1,9\nx,1,\ny,,3\nx,1,1\n", "", ("group", "t", ("b",), sums))
        self.assertEqual(rows, (
            ((None,), (None, 1, 3, 3, 3), ()), (("1",), ("1", 4, 8, 1, 5), ()), (("2",), ("2", 1, -7, -7, -7), ())))
        self.assertEqual(lost, ())

    def test_group_without_keys(self):
        sums = (("many", "count", None), ("all", "total", "n"))
        self.assertEqual(self.told("x,1,5\ny,1,2\n,1,9\n", "", ("group", "t", (), sums)), ((((), (2, 7), ()),), ()))
        self.assertEqual(self.told(",1,5\n", "", ("group", "t", (), sums)), ((), ()))

    def test_sums_of_nothing_and_the_first_that_is_not_none(self):
        sums = (("low", "least", "b"), ("high", "most", "b"), ("one", "first", "b"), ("all", "total", "n"))
        rows, _ = self.told("x,,\ny,,\nx,q,\ny,,\nx,p,\nx,r,\n", "", ("group", "t", ("a",), sums))
        self.assertEqual(rows, ((("x",), ("x", "p", "r", "q", 0), ()), (("y",), ("y", None, None, None, 0), ())))

    def test_group_by_rank_of_all_keys(self):
        rows, _ = self.told("x,,10\nx,,9\nx,b,\nw,b,1\nx,,-1\nx,,\n", "", ("group", "t", ("b", "n"), (
            ("m", "count", None),)))
        self.assertEqual([row for row, _, _ in rows], [
            (None, None), (None, -1), (None, 9), (None, 10), ("b", None), ("b", 1)])

    def test_wide(self):
        rows, lost = self.told(
            "x,p,1\ny,q,2\nx,q,3\nx,p,4\n,p,5\nx,r,6\nz,,7\ny,q,8\nw,p,x\nv,p,\nx,q,9\n", "",
            ("wide", "t", ("a",), "b", "n", (("q", "two"), ("p", "one"), ("o", "no"))))
        self.assertEqual(rows, (
            (("v",), ("v", None, None, None), ()), (("x",), ("x", 3, 1, None), ()), (("y",), ("y", 2, None, None), ())))
        self.assertEqual(lost, (
            ("t", ("s", 3), "twice"), ("t", ("s", 5), "strange"), ("t", ("s", 6), "strange"),
            ("t", ("s", 7), "twice"), ("t", ("s", 10), "twice")))

    def test_wide_takes_the_first_row_though_its_worth_is_none(self):
        rows, lost = self.told("x,p,\nx,p,4\n", "", ("wide", "t", (), "b", "n", (("p", "one"),)))
        self.assertEqual(rows, (((), (None,), ()),))
        self.assertEqual(lost, (("t", ("s", 1), "twice"),))

    def test_wide_by_rank_and_of_nothing(self):
        wide = ("wide", "t", ("b", "n"), "a", "c", (("x", "one"),))
        rows, _ = self.told("x,2,10\nx,2,9\nx,10,1\nx,,1\nx,2,\n", "", wide)
        self.assertEqual([row for row, _, _ in rows], [(None, 1), ("10", 1), ("2", None), ("2", 9), ("2", 10)])
        self.assertEqual(self.told("y,2,10\n", "", wide), ((), (("t", ("s", 0), "strange"),)))
        self.assertEqual(self.told("", "", wide), ((), ()))

    def test_long(self):
        rows, lost = self.told("x,1,5\n,2,6\ny,,\n", "", ("long", "t", ("c", "a"), "what", "worth"))
        self.assertEqual(rows, (
            ((("s", 0), "c"), ("1", 5, "c", "5"), ()), ((("s", 0), "a"), ("1", 5, "a", "x"), ()),
            ((("s", 2), "c"), (None, None, "c", None), ()), ((("s", 2), "a"), (None, None, "a", "y"), ())))
        self.assertEqual(lost, ())

    def test_steps_of_made_tables(self):
        rows, _ = self.told("x,1,5\ny,1,2\nz,2,3\n", "", ("group", "t", ("b",), (("all", "total", "n"),)),
                            ("w", "within", "all", 5, 9))
        self.assertEqual(rows, ((("1",), ("1", 7), ()), (("2",), ("2", 3), ("w",))))

    def test_names_of_rows_of_rows(self):
        tables = (("t", ("of", "s"), (), ()), ("l", ("long", "t", ("a", "b"), "k", "w"), (), ()),
                  ("m", ("long", "l", ("w",), "kk", "ww"), (), ()))
        rows = run((self.SOURCES[:1], tables), (("s", "1,2,3\n"),))[2][1]
        self.assertEqual(rows, ((((("s", 0), "a"), "w"), ("3", "a", "w", "1"), ()),
                                (((("s", 0), "b"), "w"), ("3", "b", "w", "2"), ())))


class Whole(unittest.TestCase):

    def test_a_program_with_each_origin_and_each_word(self):
        told = dict((name, (rows, lost)) for name, rows, lost in run(FULL, FULL_TEXTS))
        self.assertEqual(list(told), ["town", "paid", "both", "sums", "long", "wide"])
        bills = [("bills", number) for number in range(11)]
        self.assertEqual([(row, worths[1], worths[8], marks) for row, worths, marks in told["paid"][0]], [
            (bills[0], "bern", "3000", ()), (bills[1], None, None, ()), (bills[2], "chur", None, ("look", "unlike")),
            (bills[3], "bern", "3000", ()), (bills[4], "bern", "3000", ("before", "given", "readday")),
            (bills[6], None, None, ("within",)), (bills[7], "ulm", None, ("among", "look")),
            (bills[8], "bern", "3000", ("cutit",)), (bills[9], "basel", "4000", ("given",)),
            (bills[10], "bern", "3000", ("readsum",))])
        self.assertEqual(told["paid"][0][0][1], (
            "ann lee", "bern", "1.2.2024", "10.50", 738916, 1050, "ann", "lee", "3000"))
        self.assertEqual(told["paid"][1], (("bills", bills[5], "few"),))
        self.assertEqual([row for row, _, _ in told["both"][0]], [(bills[0], ("towns", 0)), (bills[3], ("towns", 0))])
        self.assertEqual(told["both"][1], (("paid", bills[1], "lone"), *(
            ("town", ("towns", number), "lone") for number in [1, 2, 3])))
        self.assertEqual(told["sums"], (((("bern",), ("bern", 2, 1750, 738916, "ann lee"), ()),), ()))
        self.assertEqual(told["wide"], (((("bern",), ("bern", 1750, 738916), ()),), ()))

    def test_against_the_oracle(self):
        self.assertEqual(run(FULL, FULL_TEXTS), Tables(FULL, FULL_TEXTS).told())
        for seed in range(150):
            drawn = Drawn(seed)
            self.assertEqual(run(drawn.program, drawn.texts), Tables(drawn.program, drawn.texts).told(), seed)

    def test_asked_again_the_same_is_told(self):
        self.assertEqual(run(FULL, FULL_TEXTS), run(FULL, FULL_TEXTS))

    def test_kinds_of_what_is_told(self):
        def look(thing):
            self.assertIn(type(thing), (tuple, str, int, type(None)))
            if isinstance(thing, tuple):
                for part in thing:
                    look(part)

        look(run(FULL, FULL_TEXTS))
        for seed in range(20):
            look(run(Drawn(seed).program, Drawn(seed).texts))

    def test_nothing_is_lost_untold(self):
        for seed in range(150):
            drawn = Drawn(seed)
            sources, tables = drawn.program
            told = {name: (rows, lost) for name, rows, lost in run(drawn.program, drawn.texts)}
            for name, origin, _, _ in tables:
                rows, lost = told[name]
                names = [row for row, _, _ in rows]
                self.assertEqual(len(set(names)), len(names))
                self.assertEqual(len(set(lost)), len(lost))
                made_of = {"of": (), "join": origin[1:3]}.get(origin[0], origin[1:2])
                for one in made_of:
                    stood = {row for row, _, marks in told[one][0] if not marks}
                    gone = {row for table, row, _ in lost if table == one}
                    self.assertLessEqual(gone, stood)
                    if origin[0] == "join":
                        kept = {row[made_of.index(one)] for row in names}
                    elif origin[0] == "long":
                        kept = {row for row, _ in names}
                    else:
                        continue
                    self.assertEqual(kept | gone, stood)
                    self.assertFalse(kept & gone)
                if origin[0] == "group":
                    self.assertEqual(sum(worths[len(origin[2])] for _, worths, _ in rows),
                                     sum(not marks for _, _, marks in told[origin[1]][0]))


class Orders(unittest.TestCase):

    def some_orders(self, program, rng, many):
        """So many tuples of orders, each of a number drawn for each table."""
        ways = [orders_of(program, table[0]) for table in program[1]]
        for _ in range(many):
            yield tuple(order_at(program, table[0], rng.randrange(way)) for table, way in zip(program[1], ways))

    def test_each_order_comes_to_the_same(self):
        sources = (("s", ABC),)
        steps = (("p", "spell", "a", (("x", None),)), ("q", "given", "b"), ("r", "read", "c", ("whole",), "n"),
                 ("u", "unlike", ("b",)), ("f", "fill", "a", ("b",)))
        behinds = (("p", "f"), ("q", "f"), ("q", "u"), ("r", "f"), ("r", "u"), ("u", "f"))
        program = (sources, (("t", ("of", "s"), steps, behinds), ("v", ("long", "t", ("a", "b"), "k", "w"), (), ())))
        texts = (("s", "y,1,1\nx,1,\n,1,2\nz,2,x\nx,2,1\n,,1\nx,,1\nw,1,3\n"),)
        wanted = run(program, texts)
        many = orders_of(program, "t")
        self.assertGreater(many, 4)
        for which in range(many):
            orders = (order_at(program, "t", which), ())
            self.assertEqual(run(program, texts, orders=orders), wanted)

    def test_all_orders_of_drawn_programs(self):
        rng = random.Random(3)
        more = 0
        for seed in range(120):
            drawn = Drawn(seed)
            wanted = run(drawn.program, drawn.texts)
            for orders in self.some_orders(drawn.program, rng, 4):
                more += orders != tuple(tuple(step[0] for step in table[2]) for table in drawn.tables)
                self.assertEqual(run(drawn.program, drawn.texts, orders=orders), wanted, seed)
        self.assertGreater(more, 100)

    def test_a_program_with_all_words(self):
        rng = random.Random(4)
        wanted = run(FULL, FULL_TEXTS)
        self.assertGreater(orders_of(FULL, "paid"), math.factorial(4))
        for orders in self.some_orders(FULL, rng, 60):
            self.assertEqual(run(FULL, FULL_TEXTS, orders=orders), wanted)

    def test_columns_stay_in_their_order(self):
        sources = (("s", ABC), ("z", ("named", ";", ("d",))))
        steps = (("p", "read", "a", ("whole",), "m"), ("q", "read", "b", ("whole",), "n"),
                 ("r", "glue", ("a", "b"), "-", "o"))
        tables = (("t", ("of", "s"), steps, ()), ("w", ("long", "t", ("a",), "k", "w"), (), ()),
                  ("u", ("of", "z"), (), ()), ("i", ("join", "t", "u", (("c", "d"),)), (), ()),
                  ("j", ("join", "u", "t", (("d", "c"),)), (), ()))
        program = (sources, tables)
        texts = (("s", "1,2,3\n4,5,6\n"), ("z", "d=3\n"))
        wanted = run(program, texts)
        self.assertEqual(wanted[0][1][0][1], ("1", "2", "3", 1, 2, "1-2"))
        self.assertEqual(wanted[1][1][0][1], ("2", "3", 1, 2, "1-2", "a", "1"))
        self.assertEqual(wanted[3][1][0][1], ("1", "2", "3", 1, 2, "1-2"))
        self.assertEqual(wanted[4][1][0][1], ("3", "1", "2", 1, 2, "1-2"))
        for order in itertools.permutations("pqr"):
            self.assertEqual(run(program, texts, orders=(order, (), (), (), ())), wanted)

    def test_orders_left_out_or_none(self):
        own = tuple(tuple(step[0] for step in table[2]) for table in FULL[1])
        wanted = run(FULL, FULL_TEXTS)
        self.assertEqual(run(FULL, FULL_TEXTS, orders=None), wanted)
        self.assertEqual(run(FULL, FULL_TEXTS, orders=own), wanted)
        self.assertEqual(run(FULL, FULL_TEXTS, orders=(None, own[1], None, None, own[4], None)), wanted)
        self.assertEqual(run(program=FULL, texts=FULL_TEXTS), wanted)
        self.assertEqual(run(orders=own, texts=FULL_TEXTS, program=FULL), wanted)
        self.assertRaises(TypeError, run, FULL, FULL_TEXTS, None)


if __name__ == "__main__":
    unittest.main()
