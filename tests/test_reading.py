import random
import unittest

from cleanedtables.errors import NoText
from cleanedtables.programs import look_program
from cleanedtables.reading import read_program
from cleanedtables.showing import show_program
from tests.samples import FULL, Drawn
from tests.test_showing import FULL_TEXT
from tests.things import ODD_KINDS

SOURCE = 'source s signs "," """" a b c\n'
OTHER = 'source q named ";" d e\n'
TABLE = "table t of s\n"
KEYS = "table k of q\n"
ABC = ("signs", ",", '"', ("a", "b", "c"))
S = ("s", ABC)
Q = ("q", ("named", ";", ("d", "e")))


class Read(unittest.TestCase):

    def test_the_full_sample(self):
        self.assertEqual(read_program(FULL_TEXT), FULL)
        self.assertEqual(read_program(text=FULL_TEXT), FULL)

    def test_what_is_shown_is_read(self):
        for seed in range(300):
            program = Drawn(seed).program
            self.assertEqual(read_program(show_program(program)), program)
            self.assertEqual(repr(read_program(show_program(program))), repr(program))

    def test_what_is_read_is_shown(self):
        for seed in range(60):
            text = show_program(Drawn(seed).program)
            self.assertEqual(show_program(read_program(text)), text)

    def read(self, text, sources, tables):
        told = read_program(text)
        self.assertEqual(repr(told), repr((sources, tables)))
        self.assertEqual(show_program(told), text)

    def test_by_hand(self):
        self.read(SOURCE + TABLE[:-1], (S,), (("t", ("of", "s"), (), ()),))
        self.read('source s signs ":" "\'" a\ntable t of s', (("s", ("signs", ":", "'", ("a",))),),
                  (("t", ("of", "s"), (), ()),))
        self.read("source s places a 20 b 1\ntable t of s", (("s", ("places", (20, 1), ("a", "b"))),),
                  (("t", ("of", "s"), (), ()),))
        self.read(SOURCE + OTHER + TABLE + KEYS + "table j join t k a d b e", (S, Q), (
            ("t", ("of", "s"), (), ()), ("k", ("of", "q"), (), ()),
            ("j", ("join", "t", "k", (("a", "d"), ("b", "e"))), (), ())))
        self.read(SOURCE + TABLE + "table g group t a : n count - m most b", (S,), (
            ("t", ("of", "s"), (), ()),
            ("g", ("group", "t", ("a",), (("n", "count", None), ("m", "most", "b"))), (), ())))
        self.read(SOURCE + TABLE + "table g group t : n count -", (S,), (
            ("t", ("of", "s"), (), ()), ("g", ("group", "t", (), (("n", "count", None),)), (), ())))
        self.read(SOURCE + TABLE + 'table w wide t c b : a c "x y" xx """" yy', (S,), (
            ("t", ("of", "s"), (), ()),
            ("w", ("wide", "t", ("c", "b"), "a", "c", (("x y", "xx"), ('"', "yy"))), (), ())))
        self.read(SOURCE + TABLE + "table l long t b a : n v", (S,), (
            ("t", ("of", "s"), (), ()), ("l", ("long", "t", ("b", "a"), "n", "v"), (), ())))

    def test_steps_by_hand(self):
        steps = [
            ('cut a " " d e f', ("cut", "a", " ", ("d", "e", "f"))),
            ('cut a """" d e', ("cut", "a", '"', ("d", "e"))),
            ('glue a b a : ":" d', ("glue", ("a", "b", "a"), ":", "d")),
            ("spell a", ("spell", "a", ())),
            ('spell a "-" - "a b" "c" "q""" """"""', ("spell", "a", (("-", None), ("a b", "c"), ('q"', '""')))),
            ("read a whole whole", ("read", "a", ("whole",), "whole")),
            ("read a amount 4 day", ("read", "a", ("amount", 4), "day")),
            ("read a day mdy n", ("read", "a", ("day", "mdy"), "n")),
            ('put a "7"', ("put", "a", "7")), ('put a "- :"', ("put", "a", "- :")), ("given a", ("given", "a")),
            ('within a "a" "b c"', ("within", "a", "a", "b c")),
            ('among a "1" "2" "a"', ("among", "a", ("1", "2", "a"))),
            ("before a c", ("before", "a", "c")), ("unlike c a b", ("unlike", ("c", "a", "b"))),
            ("fill a", ("fill", "a", ())), ("fill a c b", ("fill", "a", ("c", "b"))),
            ("look a k d e n", ("look", "a", "k", "d", "e", "n")),
        ]
        for row, step in steps:
            self.read(SOURCE + OTHER + KEYS + TABLE + f"step x {row}", (S, Q), (
                ("k", ("of", "q"), (), ()), ("t", ("of", "s"), (("x", *step),), ())))

    def test_numbers_and_behinds(self):
        self.read(SOURCE + TABLE + "step r read a whole n\nstep p put n -5\nstep w within n -999999999 0\n"
                  "step m among n -10 0 7\nthen p m\nthen p w\nthen r m\nthen r p\nthen r w", (S,), (
                      ("t", ("of", "s"), (
                          ("r", "read", "a", ("whole",), "n"), ("p", "put", "n", -5),
                          ("w", "within", "n", -999999999, 0), ("m", "among", "n", (-10, 0, 7))),
                       (("p", "m"), ("p", "w"), ("r", "m"), ("r", "p"), ("r", "w"))),))

    def test_words_of_rows_may_be_names(self):
        text = ('source source signs "," """" step then table\ntable table of source\nstep step given step\n'
                "step then unlike table\nthen step then\ntable of group table step : read count -\nstep look fill read")
        program = read_program(text)
        self.assertEqual(show_program(program), text)
        self.assertIsNone(look_program(program))

    def test_programs_with_clashes_too(self):
        text = SOURCE + TABLE + 'step z put a "x"\nstep b given a'
        self.assertEqual(show_program(read_program(text)), text)


class NoTexts(unittest.TestCase):

    def no(self, row, *texts):
        for text in texts:
            with self.assertRaises(NoText, msg=text) as caught:
                read_program(text)
            self.assertEqual(vars(caught.exception), {"row": row}, text)
            self.assertIs(type(caught.exception.row), int)

    def test_of_anything(self):
        self.no(0, *ODD_KINDS, None, 0, 1, [SOURCE + TABLE], (FULL_TEXT,), FULL, FULL_TEXT.encode())

    def test_texts_that_are_none(self):
        self.no(0, "", "\n", " ", "x", "source", "step x given a", "then a b", "\n" + FULL_TEXT)

    def test_an_empty_row(self):
        rows = FULL_TEXT.split("\n")
        for place in range(len(rows) + 1):
            self.no(place, "\n".join(rows[:place] + [""] + rows[place:]))
        self.no(len(rows), FULL_TEXT + "\n")
        self.no(len(rows), FULL_TEXT + "\n\n")

    def test_no_program_of_right_rows(self):
        """Each row is of a form and stands where it may: told is how many there are."""
        self.no(1, 'source s signs "," """" a', "table t of s")
        self.no(2, SOURCE + SOURCE[:-1], 'source s signs "," """"\ntable t of s', SOURCE + "table t of t",
                SOURCE + "table t of u", SOURCE + "table s of s",
                'source s signs "ab" """" a\ntable t of s', 'source s signs "" """" a\ntable t of s',
                'source s signs "." """" a\ntable t of s', 'source s signs "," "" a\ntable t of s',
                'source s signs "," "," a\ntable t of s', 'source s signs "," """" a a\ntable t of s',
                'source s named ":" a\ntable t of s', 'source s named ";"";" a\ntable t of s',
                'source s named ","\ntable t of s',
                "source s places\ntable t of s", "source s places a 0\ntable t of s",
                "source s places a 21\ntable t of s", "source s places a -1\ntable t of s",
                "source s places a 999999999\ntable t of s", "source s places a 1 a 2\ntable t of s",
                'source s signs "," """" a b c d e f g\ntable t of s')
        self.no(5, SOURCE * 4 + TABLE[:-1])
        self.no(8, SOURCE + "\n".join(f"table t{'abcdefg'[n]} of s" for n in range(7)))

    def test_no_program_of_right_tables(self):
        for row in ["join t t a b", "join t k", "join t k a d a d", "join t k a x", "join t x a d", "join k j a d",
                    "join t k a d b", "group t a :", "group t a a : n count -", "group t : n count a",
                    "group t : n most -", "group t : n nothing a", "group t : n nothing -", "group t : n total a",
                    "group t : n count - n count -", "group t a b c d : n count -", "group x : n count -",
                    'wide t : a b', 'wide t : a a "x" xx', 'wide t : a b "x" xx "x" yy', 'wide t : a b "" xx',
                    'wide t : a b " x" xx', 'wide t : a b "x" xx "y" xx', 'wide t a : b c "x" a', "long t : n v",
                    "long t a a : n v", "long t a : n n", "long t a : b v", "long t a b x : n v", "of t", "of x",
                    "of j"]:
            text = SOURCE + OTHER + TABLE + KEYS + "table j " + row
            if row == "join t k a d b":
                self.no(4, text)
            else:
                self.no(5, text)

    def test_no_program_of_right_steps(self):
        for row in ['cut a "," d', 'cut a ","', 'cut a "ab" d e', 'cut a "" d e', 'cut a "," d d', 'cut a "," b c',
                    'cut x "," d e', 'cut a "," d e f g h', 'glue : "," d', 'glue a : ",," d', 'glue a : "," b',
                    'spell a "x" 7', 'spell a "" "x"', 'spell a "y" "x" "x" "y"', 'spell a "x " "y"',
                    'spell a "x" ""', "read a amount 0 n", "read a amount 5 n", "read a amount -1 n",
                    "read a day dym n", "read a day n n", "read x whole n", "read a whole b", "put a -", "put a 7",
                    'put a ""', 'put a "x "', "within a - -", "within a 1 2", 'within a "b" "a"', 'within a "a" 2',
                    "among a", "among a -", 'among a "b" "a"', "among a 1", "before a a", "unlike", "unlike a a",
                    "unlike a b c d", "fill a a", "fill a b b", "fill x", "look a k d e a", "look a x d e n",
                    "look a t a b n", "given x"]:
            self.no(5, SOURCE + OTHER + KEYS + TABLE + "step x " + row)
        self.no(4, SOURCE + TABLE + "step x given a\nstep x given b")

    def test_no_program_of_right_behinds(self):
        steps = SOURCE + TABLE + "step x given a\nstep y given b\nstep z given c\n"
        self.no(6, steps + "then x x", steps + "then y x", steps + "then x w")
        self.no(7, steps + "then x y\nthen x y", steps + "then y z\nthen x y", steps + "then x z\nthen x y")

    def test_rows_of_no_form(self):
        rows = [
            'source s signs "," 1 a', 'source s signs "," - a', 'source s signs "," a', "source s named 1 a",
            "source s named - a", "source", "source s", "source s signs", 'source s signs ","',
            "source s signs , \" a", 'source s signs "," " a',
            'source s signs "," """ a', 'source s signs "," """" A', 'source s signs "," """" a1',
            'source s signs "," """" abcdefghi', 'source s signs "," """" "a"', 'source s signs "," """" a -',
            'source s signs "," """" a 1', 'source s signs "," """" :', 'source S signs "," """" a',
            'source "s" signs "," """" a', 'source s signs 1 """" a', 'source s signs - """" a',
            'source s sign "," """" a',
            'source s Signs "," """" a', "source s places a", "source s places a 1 b", "source s places 1 a",
            "source s places a 01", "source s places a +1", "source s places a -0", "source s places a 1234567890",
            "source s places a -1234567890", "source s places a 00", 'source s places a "1"', "source s places a -",
            "source s places a 1.0", "source s places a --1", "source s named", "source s named ; a",
            "source s named a",
            'source s named ";" a  b', 'source s named ";" a ', ' source s named ";" a', 'source  s named ";" a',
            'source s named ";"a', 'source s named ";" a\t', 'Source s named ";" a', 'sources s named ";" a',
            'source s named "a" "b" ";"', 'source "s', "table", "comment", "#", "-", '"', '""']
        for row in rows:
            self.no(0, row, row + "\n" + FULL_TEXT)
            self.no(1, SOURCE + row, SOURCE + row + "\n" + TABLE)

    def test_tables_of_no_form(self):
        for row in ["table", "table j", "table j of", "table j of s s", 'table j of "s"', "table j of S",
                    "table J of s", "table j join", "table j join t", "table j join t k a", "table j join t k a d b",
                    'table j join t k a "d"', "table j join t k : a d", "table j group", "table j group t",
                    "table j group t a", "table j group :", "table j group t : n", "table j group t : n count",
                    "table j group t : n count - m", "table j group t : - count n", "table j group t : n - n",
                    "table j group t a : : n count -", "table j group t - : n count -",
                    'table j group t : n "count" -', "table j group t : n count 1", 'table j group t ":" n count -',
                    "table j wide", "table j wide t", "table j wide t :", "table j wide t : a", "table j wide t a b",
                    'table j wide t : a b "x"', "table j wide t : a b x xx", 'table j wide t : a b "x" "y"',
                    "table j wide t : a b - xx", "table j wide t : a b 1 xx", 'table j wide t : a b "x" xx "y"',
                    "table j long", "table j long t", "table j long t a", "table j long t a :",
                    "table j long t a : n", "table j long t a : n v w", 'table j long t a : "n" v',
                    "table j long t a n v", "table j long : n v", "table j wider t", "table j of s ", "table j  of s",
                    "tables j of s", "Table j of s"]:
            self.no(4, SOURCE + OTHER + TABLE + KEYS + row, SOURCE + OTHER + TABLE + KEYS + row + "\n\n")

    def test_steps_of_no_form(self):
        for row in ["cut a 1 d e", "cut a - d e", "glue a : 1 d", "glue a : - d", 'spell a x "y"', 'spell a 1 "y"',
                    "", "cut", "cut a", "cut a b", "cut a , d e", 'cut "a" "," d e', 'cut a "," "d"', 'cut a "," d -',
                    'cut a "," : d', "glue", "glue a", 'glue a "," d', "glue a :", 'glue a : ","', "glue a : d",
                    'glue a : "," d e', 'glue "a" : "," d', 'glue a ":" "," d', "spell", 'spell a "x"', "spell a x y",
                    'spell a "x" y', 'spell a - "x"', "spell a 1 -", 'spell a "x" - "y"', 'spell "a"', "read",
                    "read a", "read a whole", "read a whole 1", "read a whole n m", "read a amount n",
                    "read a amount 2", "read a amount x n", "read a amount 02 n", 'read a amount "2" n',
                    "read a amount - n", "read a day n", "read a day 1 n", 'read a day "ymd" n', "read a day ymd",
                    "read a week ymd n", "read a Whole n", 'read a "whole" n', "read whole n", 'read "a" whole n',
                    "put", "put a", "put a b", 'put a "b" "c"', "put a 01", "put a +1", "put a 1234567890",
                    'put a "b', 'put a b"', 'put a "b"c', 'put a """', "put a '", "put - -", "given", "given a b",
                    'given "a"', "given -", "within a", "within a 1", "within a 1 2 3", "within a b c", "among",
                    "among a b", "among 1", "before", "before a", "before a b c", "before a -", 'unlike "a"',
                    "unlike -", "unlike a : b", "fill", "fill -", "fill a -", 'fill a "b"', "look", "look a k d e",
                    "look a k d e n m", 'look a k d "e" n', "look a k d e -", "keep a", "Given a", "giv en a",
                    "given a ", " given a", "given  a", "given\ta"]:
            self.no(4, SOURCE + OTHER + KEYS + TABLE + "step x " + row,
                    SOURCE + OTHER + KEYS + TABLE + "step x " + row + "\n-")
        for row in ["step", "step x", "step X given a", "step - given a", 'step "x" given a', "step given a",
                    "steps x given a", "step abcdefghi given a", "step x1 given a"]:
            self.no(2, SOURCE + TABLE + row)

    def test_thens_of_no_form(self):
        steps = SOURCE + TABLE + "step x given a\nstep y given b\n"
        self.no(4, *[steps + row for row in ["then", "then x", "then x y z", 'then "x" y', "then x -", "then x 1",
                                             "Then x y", "then x  y", "then x y ", " then x y", "then x Y"]])

    def test_rows_that_stand_where_they_may_not(self):
        self.no(2, SOURCE + TABLE + OTHER, SOURCE + TABLE + OTHER + KEYS)
        self.no(3, SOURCE + TABLE + "step x given a\n" + OTHER)
        self.no(0, "step x given a\n" + SOURCE + TABLE, "then x y\n" + SOURCE + TABLE, "step x given a", "then x y")
        self.no(1, SOURCE + "step x given a\n" + TABLE, SOURCE + "then x y\n" + TABLE)
        steps = SOURCE + TABLE + "step x given a\nstep y given b\n"
        self.no(5, steps + "then x y\nstep z given c", steps + "then x y\n" + OTHER)
        # Behind a then of another table a step may stand.
        text = steps + "then x y\ntable u of s\nstep x given a\nstep y given b\nthen x y"
        self.assertEqual(show_program(read_program(text)), text)
        # A then without a step ahead of it stands where it may, but no program comes of it.
        self.no(3, SOURCE + TABLE + "then x y")
        self.no(4, SOURCE + TABLE + "then x y\ntable u of s")
        # No source at all.
        self.no(1, "table t of s")
        self.no(2, TABLE + "step x given a")

    def test_the_first_row_at_fault(self):
        self.no(1, SOURCE + "nothing\n" + TABLE + "nothing\n")
        self.no(2, SOURCE + TABLE + OTHER + "nothing")
        # A fault of the program is told behind all of these.
        self.no(3, SOURCE + "table t of x\nstep x given a\nnothing")
        self.no(3, SOURCE + "table t of x\nstep x given a")

    def test_each_row_with_a_word_more_or_fewer(self):
        rows = FULL_TEXT.split("\n")
        for place, row in enumerate(rows):
            for other in [row + " ?", row + " Zz", row + ' "', row + " ", row.replace(" ", "  ", 1)]:
                self.no(place, "\n".join(rows[:place] + [other] + rows[place + 1:]))
            text = "\n".join(rows[:place] + [row.rpartition(" ")[0]] + rows[place + 1:])
            try:
                self.assertEqual(show_program(read_program(text)), text)
            except NoText as refused:
                self.assertIn(refused.row, (place, len(rows)), row)

    def test_drawn_texts_are_read_or_refused(self):
        rng = random.Random(3)
        signs = list('abcst :-"01\n,') + ["source ", "table ", "step ", "then ", "of "]
        read = 0
        for seed in range(400):
            text = show_program(Drawn(seed % 40).program)
            for _ in range(rng.choice([1, 1, 2])):
                place = rng.randrange(len(text))
                text = text[:place] + rng.choice(signs) + text[place + rng.choice([0, 1]):]
            try:
                program = read_program(text)
            except NoText as refused:
                self.assertTrue(0 <= refused.row <= text.count("\n") + 1)
            else:
                read += 1
                self.assertIsNone(look_program(program))
                self.assertEqual(show_program(program), text)
        self.assertGreater(read, 5)


if __name__ == "__main__":
    unittest.main()
