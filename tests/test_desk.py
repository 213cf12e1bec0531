import random
import unittest

from cleanedtables.benches import Bench
from cleanedtables.desk import Desk
from cleanedtables.errors import Clash, NoCell, NoDeed, NoFit, NoLine, NoRow, NoSource, NoTable, NoText
from cleanedtables.ledgers import ledger
from cleanedtables.lots import lot_of, sources_of
from cleanedtables.orders import orders_of
from cleanedtables.reading import read_program
from cleanedtables.running import run
from cleanedtables.showing import show_program
from tests.samples import FULL, Drawn
from tests.things import ODD_KINDS

TEXT = '''\
source s signs "," """" a b
source q named ";" d e
source p places f 2 g 3
table t of s
step given given a
step among among b "1" "2 3" "q"""
table k of q
table gr group t a : n count -
step two within n 1 1
table l long t a b : m v
table r of s
step read read b whole w
step look look a k d e x'''


def desk(*lines, text=TEXT):
    told = Desk(text)
    for line in lines:
        told.say(line)
    return told


class Says(unittest.TestCase):

    def says(self, told, *lines):
        """Check lines and answers, by turns."""
        for line, wanted in zip(lines[::2], lines[1::2], strict=True):
            self.assertEqual(told.say(line), wanted, line)

    def test_deeds(self):
        self.says(desk(), 'add s "x" "1"', "0", "add s - -", "1", 'add q "1" -', "0", "put s 0 b -", "done",
                  "text s", "x,\n,\n", 'put s 1 a "say ""hi"", then"', "done",
                  "text s", 'x,\n"say ""hi"", then",\n', "drop s 0", "done", "text s", '"say ""hi"", then",\n',
                  "undo", "done", "undo", "done", "text s", "x,\n,\n", "redo", "done", "redo", "done",
                  "text s", '"say ""hi"", then",\n', "drop s 1", "done", "text s", "", 'add s "z" -', "2",
                  "text s", "z,\n", "text q", "d=1\n", "text p", "")

    def test_sources_are_empty_at_first(self):
        self.says(desk(), "text s", "", "text q", "", "text p", "", "table t", ".", "marked t", ".", "made", "1")
        self.assertRaises(NoDeed, desk().say, "undo")

    def test_table(self):
        told = desk('add s "x" "1"', 'add s - "1"', 'add s "y" "2 3"', 'add s "x y" "q"""', 'add s "z" -',
                    'add s "x" "7"')
        self.says(told, "table t", '"x" "1" / "y" "2 3" / "x y" "q""" / "z" -', "marked t", "given / among",
                  "table gr", '"x" 1 / "x y" 1 / "y" 1 / "z" 1', "marked gr", ".",
                  "table l", '"a" "x" / "b" "1" / "a" "y" / "b" "2 3" / "a" "x y" / "b" "q""" / "a" "z" / "b" -')
        self.says(desk('add s - "9"'), "table t", ".", "marked t", "among given")

    def test_numbers_in_a_table(self):
        told = desk('add q "x" "p"', 'add s "x" "-7"', 'add s - "+07"', 'add s - "0"', 'add s "x" "999999999"')
        self.says(told, "table r", '"x" "-7" -7 "p" / - "+07" 7 - / - "0" 0 - / "x" "999999999" 999999999 "p"')

    def test_marked(self):
        told = desk('add s "x" "1"', 'add s "y" "x"', 'add s - "x"', "add s - -")
        self.says(told, "marked t", "among / among given / given", "marked r", "look / look read / read",
                  "marked gr", ".", "marked k", ".")

    def test_fate(self):
        told = desk('add s "x" "1"', 'add s "x" "1"', 'add s - "x"', 'add s "y" "1"', 'add q "y" -', 'add p "a" "b"')
        self.says(told, "fate s 0", "end l / marked gr two / marked r look",
                  "fate s 2", "marked r read / marked t among given",
                  "fate s 3", "end gr / end l / end r", "fate q 0", "end k", "fate p 0", ".")
        told = desk('add q "x" -', "add q - -", 'add s "x" "y"', 'add s "x" "x"', 'add s "z" -', text=(
            'source q named ";" d e\nsource s signs "," """" a b\ntable t of s\ntable k of q\n'
            'table j join t k a d\ntable w wide t : a b "x" xx'))
        self.says(told, "fate s 0", "end j / end w", "fate s 1", "end j / lost w twice",
                  "fate s 2", "lost j lone / lost w strange", "fate q 0", "end j", "fate q 1", "lost j lone")

    def test_fate_of_odd_rows(self):
        told = desk('add q "1" "2"')
        # A desk's rows come of add alone, so none is odd; the words are told all the same.
        self.says(told, "fate q 0", "end k")
        text = told.bench.program
        bench = Bench(text, (("p", "abcdef\n"), ("q", ""), ("s", "x\n")))
        told.bench = bench
        self.says(told, "fate s 0", "odd few", "fate p 0", "odd many")

    def test_lot(self):
        told = desk('add s "x" "1"', 'add s - "1"', 'add s "y" "2 3"', 'add s "x" "q"""', 'add q "y" "p"')
        self.says(told, "lot t 0", "s 0 / s 3", "lot t 1", "s 1", "lot t 2", "q 0 / s 2", "lot t 3", "s 0 / s 3",
                  "lot gr 0", "s 0 / s 3", "lot gr 1", "q 0 / s 2", "lot k 0", "q 0", "lot r 2", "q 0 / s 2",
                  "lot l 0", "s 0 / s 3", "lot l 2", "q 0 / s 2")
        told.say("drop s 0")
        self.says(told, "lot t 0", "s 1", "lot t 2", "s 3", "lot gr 0", "s 3")

    def test_made(self):
        told = desk('add s "x" "1"')
        self.says(told, "made", "0", "table k", ".", "made", "1", "made", "0", "table t", '"x" "1"', "made", "4",
                  "table t", '"x" "1"', "marked t", ".", "made", "0", 'put s 0 b "2 3"', "done", "made", "0",
                  "marked t", ".", "made", "3", "undo", "done", "table t", '"x" "1"', "made", "3", "redo", "done",
                  "made", "0")

    def test_fate_lot_and_order_ask_nothing_of_the_bench(self):
        told = desk('add s "x" "1"')
        self.says(told, "fate s 0", "end gr / end l / marked r look", "lot t 0", "s 0", "lot gr 0", "s 0",
                  "order t", "2", "made", "0", "text s", "x,1\n", "made", "0")

    def test_order(self):
        self.says(desk(), "order t", "2", "order k", "1", "order r", "2", "order gr", "1")
        self.says(desk(text=show_program(FULL)), "order paid", str(orders_of(FULL, "paid")))

    def test_by_name(self):
        self.assertEqual(Desk(text=TEXT).say(line="order t"), "2")

    def test_words_of_worths_with_blanks_signs_and_quotes(self):
        told = desk()
        for worth in ["-", "/", "a b", '"', '""', "put s", "1", ".", "a  b", "-7", "~", ":", "'"]:
            word = '"' + worth.replace('"', '""') + '"'
            number = told.say(f"add q {word} -")
            self.assertEqual(told.bench.answer(("line", "q", int(number))), (worth, None))


class Refused(unittest.TestCase):

    def refused(self, error, values, *lines, told=None):
        told = told or desk('add s "x" "1"', 'add s "y" "1"', "drop s 0", 'add q "1" -')
        for line in lines:
            state, log = str(told.bench), told.bench.log()
            with self.assertRaises(error, msg=line) as caught:
                told.say(line)
            self.assertEqual(vars(caught.exception), values, line)
            self.assertEqual((str(told.bench), told.bench.log()), (state, log))

    def no_line(self, *lines):
        told = desk('add s "x" "1"')
        for line in lines:
            with self.assertRaises(NoLine, msg=line) as caught:
                told.say(line)
            self.assertIs(caught.exception.line, line)
            self.assertEqual(list(vars(caught.exception)), ["line"])
        self.assertEqual(told.say("text s"), "x,1\n")
        self.assertEqual(told.say("made"), "0")

    def test_no_text(self):
        for text, row in [("", 0), (TEXT + "\n", 13), ("table t of s", 1), (TEXT.replace("of s", "of x"), 13)]:
            with self.assertRaises(NoText) as caught:
                Desk(text)
            self.assertEqual(vars(caught.exception), {"row": row})
        for text in [*ODD_KINDS, None, 0, FULL]:
            self.assertRaises(NoText, Desk, text)

    def test_clashes_behind_the_reading(self):
        text = TEXT + "\nstep put put w 7"
        self.assertRaises(Clash, Desk, text)
        with self.assertRaises(Clash) as caught:
            Desk(text)
        self.assertEqual(vars(caught.exception), {"table": "r", "step": "read", "other": "put", "what": "w"})
        self.assertRaises(NoText, Desk, text + "\n")

    def test_lines_of_anything(self):
        self.no_line(*ODD_KINDS, None, 0, 1, "", " ", "\n", ["undo"], ("undo",), b"undo", {"undo": 1})

    def test_words_more_or_fewer(self):
        right = ["put s 0 a -", "drop s 0", "undo", "redo", "add s - -", "text s", "table t", "marked t", "fate s 0",
                 "lot t 0", "made", "order t"]
        for line in right:
            fewer = line.rpartition(" ")[0]
            if fewer:
                self.no_line(fewer)
            for more in [" ", " x", " -", ' "x"', " 0", " undo", "\n", "\t", " \n"]:
                self.no_line(line + more)
            self.no_line(" " + line, line.upper(), line.capitalize(), "x" + line, "\n" + line, "say " + line)
            if " " in line:
                self.no_line(line.replace(" ", "  ", 1), line.replace(" ", "", 1), line.replace(" ", "\n", 1))

    def test_words_of_other_sorts(self):
        self.no_line("put S 0 a -", "put s a a -", "put s 0 A -", "put s 0 0 -", 'put s 0 "a" -', 'put "s" 0 a -',
                     "put - 0 a -", "put s - a -", 'put s "0" a -', "put s 0 - -", "put s 0 a b", "put s 0 a 1",
                     "put s 0 a 0", "put s 0 a -1", "put s 0 a :", "put abcdefghi 0 a -", "put s 0 abcdefghi -",
                     "drop s -", "drop s x", 'drop s "0"', "drop 0 0", "add s x -", "add s 1 2", "add S - -",
                     'add "s" - -', "text 0", 'text "s"', "text S", "table T", "table 0", 'table "t"', "table -",
                     "marked T", "marked -", "fate s", "fate 0 s", "fate s x", "fate s -", 'fate s "0"', 'lot t "0"',
                     "lot t", "lot 0 t", "lot t x", "lot t -", "made t", "undo 1", "order T", "order 1", "keep s",
                     "log", "together", "text", "order", "answer rows t", "#", "-", ".", '"undo"')

    def test_numbers(self):
        for number in ["00", "01", "-0", "-01", "+1", "1234567890", "-1234567890", "0000000001", "1.0", "1e1", "0x1",
                       "--1", "- 1", "1-", "_1", "1_0", "\u0661", "\u00b2"]:
            self.no_line(f"put s {number} a -", f"drop s {number}", f"fate s {number}", f"lot t {number}")

    def test_worths(self):
        for worth in ['""', '" x"', '"x "', '" "', '"', '"x', 'x"', "x", "'x'", '"x"y', '"x""', '"""', '"x" ', '"x"-',
                      "--", "None", '"x\ny"', '"\n"', "1", '"x"\n', '"x"  "y"']:
            self.no_line(f"put s 0 a {worth}", f"add s - {worth}", f"add s {worth} -", f"add x {worth}")

    def test_an_add_of_more_or_fewer_worths_than_columns(self):
        self.no_line("add s", "add s -", "add s - - -", 'add s "x"', 'add s "x" "y" "z"', "add q", "add q -",
                     "add p - - -")
        self.refused(NoSource, {"source": "x"}, "add x", "add x -", 'add x - - - "y"')
        self.refused(NoSource, {"source": "t"}, "add t - -")

    def test_no_source(self):
        self.refused(NoSource, {"source": "x"}, "put x 0 a -", "put x 99 zz -", "drop x 0", "add x - -", "text x",
                     "fate x 0", "fate x 99")
        self.refused(NoSource, {"source": "t"}, "put t 0 a -", "drop t 0", "text t", "fate t 0")

    def test_no_row(self):
        for number in [-1, 0, 2, 999999999, -999999999]:
            self.refused(NoRow, {"row": number}, f"put s {number} zz -", f"drop s {number}", f"fate s {number}")
        self.refused(NoRow, {"row": 0}, "fate p 0", "drop p 0", "lot l 0", told=desk())
        for number in [-1, 1, 2, 999999999]:
            self.refused(NoRow, {"row": number}, f"lot t {number}", f"lot k {number}")

    def test_no_cell_and_no_fit(self):
        self.refused(NoCell, {"number": 1, "column": "d"}, "put s 1 d -", 'put s 1 d "x"')
        self.refused(NoCell, {"number": 0, "column": "e"}, 'put q 0 e "x"', 'put q 0 e ";"')
        self.refused(NoFit, {"worth": ";"}, 'put q 0 d ";"', 'add q - ";"')
        self.refused(NoFit, {"worth": "abc"}, 'add p "abc" -', 'add p "abc" "abcd"')

    def test_no_table(self):
        self.refused(NoTable, {"table": "x"}, "table x", "marked x", "lot x 0", "lot x 99", "lot x -1", "order x")
        self.refused(NoTable, {"table": "s"}, "table s", "marked s", "lot s 0", "order s")

    def test_no_deed(self):
        told = desk()
        self.refused(NoDeed, {}, "undo", "redo", told=told)
        told.say("add s - -")
        self.refused(NoDeed, {}, "redo", told=told)
        told.say("undo")
        self.refused(NoDeed, {}, "undo", told=told)
        told.say("redo")
        self.refused(NoDeed, {}, "redo", told=told)

    def test_behind_a_refusal_what_was_undone_can_be_done_again(self):
        told = desk("add s - -", "undo")
        self.refused(NoRow, {"row": 0}, "drop s 0", told=told)
        self.refused(NoFit, {"worth": "abc"}, 'add p "abc" -', told=told)
        self.assertEqual(told.say("redo"), "done")
        self.assertEqual(told.say("text s"), ",\n")


def written(worth):
    if worth is None:
        return "-"
    return str(worth) if isinstance(worth, int) else '"' + worth.replace('"', '""') + '"'


def rows_by_words(rows):
    return " / ".join(" ".join(words) for words in rows) or "."


class AsABench(unittest.TestCase):

    def test_drawn_lines(self):
        rng = random.Random(40)
        for seed in range(40):
            drawn = Drawn(seed)
            told = Desk(show_program(drawn.program))
            bench = Bench(drawn.program, tuple((name, "") for name, _ in drawn.texts))
            for _ in range(25):
                self.deed(rng, drawn, told, bench)
                self.asks(rng, drawn, told, bench)
            self.assertEqual(told.bench, bench)
            self.assertEqual(told.say("made"), str(len(bench.made())))

    def deed(self, rng, drawn, told, bench):
        name, shape = rng.choice(drawn.sources)
        worth = rng.choice([None, "a", "b", "1", "2", "a b"])
        word = rng.choice(["add", "add", "put", "drop", "undo", "redo"])
        if word == "add" and len(bench) < 20:
            worths = tuple(rng.choice([None, "a", "b", "1", "2", "a b"]) for _ in shape[-1])
            deed = ("add", name, worths)
            line = " ".join(["add", name, *map(written, worths)])
        elif word == "put":
            deed = ("put", name, rng.randrange(5), rng.choice(shape[-1]), worth)
            line = f"put {name} {deed[2]} {deed[3]} {written(worth)}"
        elif word == "drop":
            deed = ("drop", name, rng.randrange(6))
            line = f"drop {name} {deed[2]}"
        else:
            deed = (rng.choice(["undo", "redo"]),)
            line = deed[0]
        try:
            wanted = getattr(bench, deed[0])(*deed[1:])
        except (NoRow, NoCell, NoDeed, NoFit) as refused:
            with self.assertRaises(type(refused)) as caught:
                told.say(line)
            self.assertEqual(vars(caught.exception), vars(refused))
        else:
            self.assertEqual(told.say(line), "done" if wanted is None else str(wanted))

    def asks(self, rng, drawn, told, bench):
        name = rng.choice(drawn.tables)[0]
        rows = bench.rows_of(name)
        self.assertEqual(told.say(f"table {name}"),
                         rows_by_words([map(written, worths) for _, worths, marks in rows if not marks]))
        self.assertEqual(told.say(f"marked {name}"), rows_by_words([marks for _, _, marks in rows if marks]))
        source = rng.choice(drawn.sources)[0]
        self.assertEqual(told.say(f"text {source}"), bench.text_of(source))
        self.assertEqual(told.say(f"order {name}"), str(orders_of(drawn.program, name)))
        if rng.random() < 0.3:
            self.assertEqual(told.say("made"), str(len(bench.made())))

    def test_fates_and_lots_of_texts(self):
        """Where no row was dropped the numbers are those of the texts."""
        rng = random.Random(41)
        for seed in range(40):
            drawn = Drawn(seed)
            told = Desk(show_program(drawn.program))
            for name, shape in drawn.sources:
                for _ in range(rng.randint(1, 6)):
                    worths = [rng.choice([None, "a", "b", "1", "a b"]) for _ in shape[-1]]
                    told.say(" ".join(["add", name, *map(written, worths)]))
            texts = tuple((name, told.say(f"text {name}")) for name, _ in drawn.texts)
            for (source, number), fates in ledger(drawn.program, texts):
                words = [[*fate[:2], *(fate[2] if fate[0] == "marked" else fate[2:])] for fate in fates]
                self.assertEqual(told.say(f"fate {source} {number}"), rows_by_words(words))
            for name, rows, _ in run(drawn.program, texts):
                for place, (row, _, _) in enumerate(rows[:20]):
                    lot = sources_of(drawn.program, lot_of(drawn.program, texts, name, row))
                    self.assertEqual(told.say(f"lot {name} {place}"),
                                     rows_by_words([[source, str(number)] for source, number in lot]))
                self.assertRaises(NoRow, told.say, f"lot {name} {len(rows)}")
            self.assertEqual(told.say("made"), "0")

    def test_the_program_is_that_of_the_text(self):
        self.assertEqual(desk().bench.program, read_program(TEXT))


if __name__ == "__main__":
    unittest.main()
