"""Point 3 of the document: what is promised over the whole program, several parts together."""

import itertools
import random
import unittest

from cleanedtables.asking import answer, looked
from cleanedtables.benches import Bench
from cleanedtables.byrows import alike_by_rows, onward, shows_alike
from cleanedtables.cells import add_row, put_cell
from cleanedtables.desk import Desk
from cleanedtables.errors import NoCell
from cleanedtables.ledgers import ends_of, ledger
from cleanedtables.lines import cell_worth, lines_of
from cleanedtables.lots import lot_of, run_only, sources_of
from cleanedtables.mends import mend, put_offers, shows_mend
from cleanedtables.orders import order_at, orders_of
from cleanedtables.programs import columns_of, look_program
from cleanedtables.reading import read_program
from cleanedtables.running import run
from cleanedtables.showing import show_program
from cleanedtables.spans import alike, spread, texts_at
from cleanedtables.touches import clashes
from cleanedtables.traces import shows_trace, trace
from tests.oracle_asks import Things
from tests.samples import FULL, FULL_TEXTS, Drawn
from tests.test_asking import SMALL, SMALL_TEXTS
from tests.test_byrows import WORTHS, drawn_programs
from tests.test_desk import written
from tests.test_ledgers import made_of
from tests.test_mends import all_choices, drawn_offers


def samples(many, start=0):
    drawn = [(one.program, one.texts) for one in map(Drawn, range(start, start + many))]
    return [(FULL, FULL_TEXTS), (SMALL, SMALL_TEXTS), *drawn]


class EachOrder(unittest.TestCase):
    """(a) Each order that keeps the told ones behind one another comes to the same tables."""

    def test_run_a_ledger_and_an_end_by_each_order(self):
        several = 0
        for program, texts in samples(80, 500):
            self.assertEqual(clashes(program), ())
            wanted = run(program, texts)
            names = [table[0] for table in program[1]]
            for name in names:
                many = orders_of(program, name)
                several += many > 1
                for which in sorted({0, many // 3, many // 2, many - 1, *range(min(many, 8))}):
                    orders = tuple(order_at(program, one, which if one == name else orders_of(program, one) - 1)
                                   for one in names)
                    self.assertEqual(run(program, texts, orders=orders), wanted)
        self.assertGreater(several, 40)

    def test_a_program_whose_steps_stand_in_another_order_is_alike(self):
        for seed in range(500, 540):
            program, texts = Drawn(seed).program, Drawn(seed).texts
            tables = []
            for name, origin, steps, behinds in program[1]:
                order = order_at(program, name, orders_of(program, name) - 1)
                steps = tuple(next(step for step in steps if step[0] == one) for one in order)
                tables.append((name, origin, steps, behinds))
            other = (program[0], tuple(tables))
            if look_program(other) is None:
                for (name, rows, _), (_, others, _) in zip(run(program, texts), run(other, texts)):
                    columns = [column for column, _ in columns_of(program, name)]
                    again = [column for column, _ in columns_of(other, name)]
                    self.assertEqual([(row, dict(zip(columns, worths)), marks) for row, worths, marks in rows],
                                     [(row, dict(zip(again, worths)), marks) for row, worths, marks in others])


class EachLot(unittest.TestCase):
    """(b) The program run on a lot's source rows alone has just the lot's rows, worths and marks."""

    def test_run_alone_and_at_a_bench_with_all_others_dropped(self):
        rng = random.Random(1)
        for program, texts in samples(40, 600):
            whole = {name: {row[0]: row for row in rows} for name, rows, _ in run(program, texts)}
            every = [(name, row) for name, rows in whole.items() for row in rows]
            for name, row in rng.sample(every, min(4, len(every))):
                lot = lot_of(program, texts, name, row)
                only = sources_of(program, lot)
                told = run_only(program, texts, only)
                self.assertEqual(tuple((one, part[0]) for one, rows, _ in told for part in rows), lot)
                bench = Bench(program, texts)
                for source, shape in program[0]:
                    for number in range(len(lines_of(shape, dict(texts)[source]))):
                        if (source, number) not in only:
                            bench.drop(source, number)
                for one, rows, _ in told:
                    self.assertEqual(bench.rows_of(one), rows)
                    self.assertTrue(all(whole[one][part[0]] == part for part in rows))
                # Of the texts that are left the same, whatever the rows are called.
                left = tuple((source, bench.text_of(source)) for source, _ in texts)
                for (_, rows, _), (_, again, _) in zip(told, run(program, left)):
                    self.assertEqual([part[1:] for part in rows], [part[1:] for part in again])


class EachTrace(unittest.TestCase):
    """(c) Cells of rows whose lines aren't in a trace may be told otherwise: answer and trace stay."""

    def test_at_a_bench_and_by_its_texts(self):
        rng = random.Random(2)
        changed = 0
        for program, texts in samples(30, 700):
            every = Things(program, texts).every()
            for thing in rng.sample(every, min(4, len(every))):
                made = trace(program, texts, thing)
                told = {asked: found for asked, _, found in made}
                self.assertEqual(told[thing], answer(program, texts, thing))
                lines = tuple(sorted(asked[1:] for asked in told if asked[0] == "line"))
                self.assertEqual(looked(program, texts, (thing,)), lines)
                bench = Bench(program, texts)
                bench.answer(thing)
                self.assertEqual(bench.made(), tuple(one for one in told if one[0] not in ("source", "line")))
                for source, shape in program[0]:
                    for number in range(len(lines_of(shape, bench.text_of(source)))):
                        for column in shape[-1]:
                            if (source, number) not in lines:
                                changed += put_or_not(bench, source, number, column, rng.choice([None, "a", "1", "zz"]))
                others = tuple((source, bench.text_of(source)) for source, _ in texts)
                self.assertEqual(bench.answer(thing), told[thing])
                self.assertEqual(bench.made(), ())
                self.assertEqual(trace(program, others, thing), made)
                self.assertIs(shows_trace(program, others, thing, made), True)
        self.assertGreater(changed, 300)


def put_or_not(bench, *cell):
    try:
        bench.put(*cell)
    except NoCell:
        return False
    return True


class EachDeed(unittest.TestCase):
    """(d) Each answer is the one made from nought of the sources as they stand; a desk tells the same."""

    def test_a_bench_a_desk_and_run_behind_the_same_deeds(self):
        rng = random.Random(3)
        for seed in range(800, 830):
            program = Drawn(seed).program
            empty = tuple(sorted((source, "") for source, _ in program[0]))
            bench, desk = Bench(program, empty), Desk(show_program(program))
            # How many deeds of the desk's each one of the bench's is.
            deeds = []
            for turn in range(14):
                source, shape = rng.choice(program[0])
                worths = tuple(rng.choice([None, "a", "b", "1", "a b"]) for _ in shape[-1])
                line = " ".join(["add", source, *map(written, worths)])
                if turn % 4 == 3:
                    bench.undo()
                    for _ in range(deeds.pop()):
                        self.assertEqual(desk.say("undo"), "done")
                elif turn % 4 == 2:
                    numbers = bench.together((("add", source, worths), ("add", source, worths)))
                    self.assertEqual((desk.say(line), desk.say(line)), tuple(map(str, numbers)))
                    deeds.append(2)
                else:
                    self.assertEqual(desk.say(line), str(bench.add(source, worths)))
                    deeds.append(1)
                self.assertEqual(str(desk.bench), str(bench))
                texts = tuple((name, bench.text_of(name)) for name, _ in empty)
                name = rng.choice(program[1])[0]
                rows = dict((one, rows) for one, rows, _ in run(program, texts))[name]
                self.assertEqual(bench.rows_of(name), rows)
                self.assertEqual(desk.say(f"marked {name}"),
                                 " / ".join(" ".join(marks) for _, _, marks in rows if marks) or ".")
                self.assertEqual(desk.say("made"), str(len(bench.made())))

    def test_what_is_made_is_what_hangs_on_the_cell_told_otherwise(self):
        """Told otherwise is a row of a source; made is none whose trace has not its line, nor the source's."""
        rng = random.Random(4)
        for program, texts in samples(25, 900):
            bench = Bench(program, texts)
            things = [("rows", table[0]) for table in program[1]]
            for thing in things:
                bench.answer(thing)
            bench.made()
            source, shape = rng.choice(program[0])
            number = rng.randrange(len(lines_of(shape, dict(texts)[source])))
            put_or_not(bench, source, number, shape[-1][0], "zz")
            others = tuple((name, bench.text_of(name)) for name, _ in texts)
            for thing in things:
                self.assertEqual(bench.answer(thing), answer(program, others, thing))
            for thing in bench.made():
                self.assertIn((source, number), looked(program, others, (thing,)))


class NothingLost(unittest.TestCase):
    """(e) Each row is odd, or stands or is marked in each table of its source, and so on."""

    def test_the_ledger_against_run(self):
        for program, texts in samples(60, 1000):
            fates = dict(ledger(program, texts))
            made = run(program, texts)
            rows = {name: {row: marks for row, _, marks in told} for name, told, _ in made}
            lost = {name: {(one, row): reason for one, row, reason in told} for name, _, told in made}
            for source, shape in program[0]:
                lines = lines_of(shape, dict(texts)[source])
                for number, (_, _, _, reason) in enumerate(lines):
                    row = (source, number)
                    for name, origin, _, _ in program[1]:
                        if origin != ("of", source):
                            continue
                        # Each row is in the table, or lost with its reason, never both.
                        self.assertEqual(lost[name].get((source, row), ""), reason)
                        self.assertEqual(row in rows[name], not reason)
                        if reason:
                            self.assertEqual(fates[row], (("odd", reason),))
                        elif rows[name][row]:
                            self.assertIn(("marked", name, rows[name][row]), fates[row])
                        elif name in ends_of(program):
                            self.assertIn(("end", name), fates[row])
                        for table in program[1]:
                            if not reason and name in made_of(table) and (name, row) in lost[table[0]]:
                                self.assertIn(("lost", table[0], lost[table[0]][(name, row)]), fates[row])


class EachMend(unittest.TestCase):
    """(f) The cheapest mend is told, with a paper that no cheaper one is; or marks that none takes away."""

    def test_a_mend_put_at_a_bench(self):
        words = set()
        for seed in range(120):
            program, texts, table, offers = drawn_offers(seed)
            told = mend(program, texts, table, offers)
            words.add(told[0])
            self.assertIs(shows_mend(program, texts, table, offers, told), True)
            above = [table]
            for name in above:
                above += made_of(next(one for one in program[1] if one[0] == name))
            if told[0] == "mended":
                bench = Bench(program, texts)
                bench.together(tuple(("put", *offers[number][0], *offers[number][1:3]) for number in told[1]))
                self.assertEqual(tuple((name, bench.text_of(name)) for name, _ in texts),
                                 put_offers(program, texts, offers, told[1]))
                for name in above:
                    self.assertFalse(any(marks for _, _, marks in bench.rows_of(name)))
                for choice in all_choices(offers)[:len(told[3])]:
                    self.assertGreater(len(left_marks(program, put_offers(program, texts, offers, choice), above)), 0)
            else:
                for choice in all_choices(offers):
                    left = left_marks(program, put_offers(program, texts, offers, choice), above)
                    self.assertTrue(set(told[1]) & left)
        self.assertEqual(words, {"mended", "stuck"})


def left_marks(program, texts, names):
    return {(name, row, mark) for name, rows, _ in run(program, texts) if name in names
            for row, _, marks in rows for mark in marks}


class WrittenBack(unittest.TestCase):
    """(g) What is written is the same sign for sign but for what was told otherwise, and is read as it was."""

    def test_texts_of_sources(self):
        rng = random.Random(5)
        for program, texts in samples(60, 1100):
            bench = Bench(program, texts)
            self.assertEqual(tuple((name, bench.text_of(name)) for name, _ in texts), texts)
            for name, shape in program[0]:
                text = dict(texts)[name]
                for number, (begin, end, cells, reason) in enumerate(lines_of(shape, text)):
                    if reason or shape[0] == "named":
                        continue
                    place = rng.randrange(len(cells))
                    first, last, _ = cells[place]
                    worth = rng.choice([None, "a", "b,c", "1"])
                    bench.put(name, number, shape[-1][place], worth)
                    put = bench.text_of(name)
                    self.assertEqual((put[:first], put[len(put) - len(text) + last:]), (text[:first], text[last:]))
                    line = lines_of(shape, put)[number]
                    self.assertEqual((line[3], cell_worth(line[2][place][2])), ("", worth))
                    self.assertEqual([cell_worth(cell[2]) for at, cell in enumerate(line[2]) if at != place],
                                     [cell_worth(cell[2]) for at, cell in enumerate(cells) if at != place])
                    bench.undo()
                    self.assertEqual(bench.text_of(name), text)

    def test_rows_added_are_read_as_they_were_told(self):
        rng = random.Random(6)
        for program, texts in samples(40, 1200):
            bench = Bench(program, texts)
            for name, shape in program[0]:
                worths = tuple(rng.choice([None, "a", "b c", "1"]) for _ in shape[-1])
                number = bench.add(name, worths)
                self.assertEqual(bench.answer(("line", name, number)), worths)
                self.assertTrue(bench.text_of(name).startswith(dict(texts)[name]))

    def test_texts_of_programs(self):
        for program, texts in samples(60, 1300):
            again = read_program(show_program(program))
            self.assertEqual(again, program)
            self.assertEqual(run(again, texts), run(program, texts))
            self.assertEqual(Bench(again, texts), Bench(program, texts))


class AlikeOrParted(unittest.TestCase):
    """(h) Programs are told alike or parted as run of the texts tells, by spans and by rows."""

    def test_by_spans_and_by_rows_against_run(self):
        rng = random.Random(7)
        spans = (("s", WORTHS, 2), ("q", (("1",), (None,)), 0))
        words = set()
        pairs = [pair for pair in itertools.combinations(drawn_programs(60), 2)
                 if columns_of(pair[0], "t") == columns_of(pair[1], "t")]
        for one, other in rng.sample(pairs, 120):
            told = alike(one, other, ("t",), spans)
            words.add(told[0])
            apart = [texts_at(one, spans, which) for which in range(spread(one, spans))
                     if standing(one, texts_at(one, spans, which)) != standing(other, texts_at(one, spans, which))]
            self.assertEqual(told, ("parted", apart[0]) if apart else ("alike", spread(one, spans)))
            by_rows = alike_by_rows(one, other, WORTHS)
            if by_rows[0] == "alike":
                self.assertEqual(apart, [])
                self.assertIs(shows_alike(one, other, WORTHS, by_rows[1]), True)
            else:
                text = ""
                for row in by_rows[1]:
                    text = add_row(one[0][0][1], text, row)
                self.assertNotEqual(standing(one, (("q", ""), ("s", text))), standing(other, (("q", ""), ("s", text))))
                self.assertEqual(told[0], "parted" if len(by_rows[1]) <= 2 else told[0])
        self.assertEqual(words, {"alike", "parted"})

    def test_alike_by_rows_holds_of_longer_sources(self):
        rng = random.Random(8)
        for one, other in itertools.combinations(drawn_programs(60), 2):
            if columns_of(one, "t") == columns_of(other, "t") and alike_by_rows(one, other, WORTHS)[0] == "alike":
                text = ""
                for _ in range(12):
                    text = add_row(one[0][0][1], text, tuple(rng.choice(own) for own in WORTHS))
                texts = (("q", ""), ("s", text))
                self.assertEqual(standing(one, texts), standing(other, texts))

    def test_a_row_at_a_time_is_what_a_bench_tells(self):
        rng = random.Random(9)
        for program in drawn_programs(25):
            bench = Bench(program, (("q", ""), ("s", "")))
            state = (None,) * sum(step[1] == "fill" for step in program[1][0][2])
            for _ in range(6):
                row = tuple(rng.choice(own) for own in WORTHS)
                told, state = onward(program, state, row)
                number = bench.add("s", row)
                _, worths, marks = bench.rows_of("t")[number]
                self.assertEqual(told, (worths, not marks))


def standing(program, texts):
    return [worths for _, worths, marks in run(program, texts)[0][1] if not marks]


class NotAskedNotLookedAt(unittest.TestCase):
    """(i) What isn't asked isn't looked at."""

    def test_of_other_tables_and_rows_nothing_is_made(self):
        for program, texts in samples(40, 1400):
            for table in program[1]:
                bench = Bench(program, texts)
                bench.rows_of(table[0])
                needed = [table[0]]
                for name in needed:
                    one = next(one for one in program[1] if one[0] == name)
                    needed += [*made_of(one), *(step[3] for step in one[2] if step[1] == "look")]
                self.assertLessEqual({thing[1] for thing in bench.made()}, set(needed))

    def test_only_what_is_asked_is_looked_through_behind_a_deed(self):
        bench = Bench(SMALL, SMALL_TEXTS)
        for table in SMALL[1]:
            bench.rows_of(table[0])
        bench.made()
        bench.put("q", 0, "e", "zz")
        self.assertEqual(bench.answer(("rows", "t")), answer(SMALL, SMALL_TEXTS, ("rows", "t")))
        bench.rows_of("gr")
        self.assertEqual(bench.made(), ())
        self.assertEqual(bench.answer(("row", "o", 1, ("s", 0)))[0][3], "zz")
        self.assertEqual(bench.made(), (("row", "k", 0, ("q", 0)), ("keyed", "k", "d", "1"), ("row", "o", 1, ("s", 0))))

    def test_lines_that_are_not_asked_may_be_anything(self):
        self.assertEqual(looked(FULL, FULL_TEXTS, (("rows", "town"), ("source", "bills"))), ())
        texts = dict(FULL_TEXTS)
        for number in range(5):
            if number != 1:
                texts["bills"] = put_cell(FULL[0][0][1], texts["bills"], number, "who", "zz")
        thing = ("row", "paid", 8, ("bills", 1))
        self.assertEqual(looked(FULL, FULL_TEXTS, (thing,)), (("bills", 1),))
        self.assertEqual(answer(FULL, tuple(sorted(texts.items())), thing), answer(FULL, FULL_TEXTS, thing))


if __name__ == "__main__":
    unittest.main()
