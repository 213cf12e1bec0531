import unittest

from cleanedtables.showing import show_program
from tests.samples import FULL, Drawn

ABC = ("signs", ",", '"', ("a", "b", "c"))
SOURCES = (("s", ABC), ("q", ("named", ";", ("d", "e"))))
OF = ("t", ("of", "s"), (), ())
KEYS = ("k", ("of", "q"), (), ())
SHOWN_SOURCES = 'source s signs "," """" a b c\nsource q named ";" d e\n'

FULL_TEXT = """\
source bills signs "," "\"\"" who place day sum
source towns places code 4 title 8
source notes named ";" name note
table town of towns
step glueit glue title code : "/" both
table paid of bills
step spellit spell place "B" "bern" "X" - "bn" "bern"
step putit put who "nobody"
step readday read day day dmy dated
step readsum read sum amount 2 cents
step cutit cut who " " first last
step given given dated
step within within cents 0 999999
step among among place "basel" "bern" "chur"
step before before first last
step unlike unlike who cents
step fill fill place who
step look look place town title code zip
then among fill
then among unlike
then before fill
then before unlike
then cutit before
then cutit fill
then cutit unlike
then fill look
then given fill
then given unlike
then putit cutit
then putit fill
then putit unlike
then readday fill
then readday given
then readday unlike
then readsum fill
then readsum unlike
then readsum within
then spellit among
then spellit fill
then unlike fill
then unlike look
then within fill
then within unlike
table both join paid town zip code place title
table sums group both place : many count - all total cents low least dated one first who
step some within many 1 3
table long long sums low all : what worth
table wide wide long place : what worth "all" every "low" early"""


class Shown(unittest.TestCase):

    def tables(self, tables, *rows):
        """Check the rows of tables behind the sources."""
        self.assertEqual(show_program((SOURCES, tables)), SHOWN_SOURCES + "\n".join(rows))

    def steps(self, steps, *rows, behinds=()):
        self.tables((KEYS, ("t", ("of", "s"), steps, behinds)), "table k of q", "table t of s", *rows)

    def test_each_shape_origin_and_word(self):
        self.assertEqual(show_program(FULL), FULL_TEXT)
        self.assertEqual(show_program(program=FULL), FULL_TEXT)

    def test_no_line_feed_at_the_end(self):
        self.tables((OF,), "table t of s")

    def test_shapes(self):
        shapes = {
            ("signs", ",", '"', ("a",)): '"," """" a',
            ("signs", ";", "'", ("a", "b")): '";" "\'" a b',
            ("signs", "|", '"', ("a", "b")): '"|" """" a b',
            ("signs", ":", '"', ("f", "e", "d", "c", "b", "a")): '":" """" f e d c b a',
        }
        for shape, words in shapes.items():
            self.assertEqual(show_program(((("s", shape),), (OF,))), f"source s signs {words}\ntable t of s")
        self.assertEqual(show_program(((("s", ("places", (20, 1), ("a", "b"))),), (OF,))),
                         "source s places a 20 b 1\ntable t of s")
        self.assertEqual(show_program(((("s", ("named", "|", ("a", "b"))),), (OF,))),
                         'source s named "|" a b\ntable t of s')

    def test_origins(self):
        self.tables((OF, KEYS, ("j", ("join", "t", "k", (("a", "d"),)), (), ())),
                    "table t of s", "table k of q", "table j join t k a d")
        self.tables((OF, KEYS, ("j", ("join", "t", "k", (("a", "d"), ("b", "e"))), (), ())),
                    "table t of s", "table k of q", "table j join t k a d b e")
        self.tables((OF, ("g", ("group", "t", (), (("n", "count", None),)), (), ())),
                    "table t of s", "table g group t : n count -")
        self.tables((OF, ("g", ("group", "t", ("a", "b"), (("n", "count", None), ("m", "most", "c"))), (), ())),
                    "table t of s", "table g group t a b : n count - m most c")
        self.tables((OF, ("w", ("wide", "t", (), "a", "b", (("x y", "xx"),)), (), ())),
                    "table t of s", 'table w wide t : a b "x y" xx')
        self.tables((OF, ("w", ("wide", "t", ("c",), "a", "b", (('"', "xx"), ("-", "yy"))), (), ())),
                    "table t of s", 'table w wide t c : a b """" xx "-" yy')
        self.tables((OF, ("l", ("long", "t", ("a",), "n", "v"), (), ())),
                    "table t of s", "table l long t a : n v")
        self.tables((OF, ("l", ("long", "t", ("b", "a"), "n", "v"), (), ())),
                    "table t of s", "table l long t b a : n v")

    def test_steps(self):
        self.steps((("x", "cut", "a", " ", ("d", "e", "f")),), 'step x cut a " " d e f')
        self.steps((("x", "cut", "a", '"', ("d", "e")),), 'step x cut a """" d e')
        self.steps((("x", "glue", ("a",), "-", "d"),), 'step x glue a : "-" d')
        self.steps((("x", "glue", ("a", "b", "a"), ":", "d"),), 'step x glue a b a : ":" d')
        self.steps((("x", "spell", "a", ()),), "step x spell a")
        self.steps((("x", "spell", "a", (("-", None), ("a b", "c"), ('q"', '""'))),),
                   'step x spell a "-" - "a b" "c" "q""" """"""')
        self.steps((("x", "read", "a", ("whole",), "n"),), "step x read a whole n")
        self.steps((("x", "read", "a", ("amount", 4), "n"),), "step x read a amount 4 n")
        self.steps((("x", "read", "a", ("day", "mdy"), "n"),), "step x read a day mdy n")
        self.steps((("x", "put", "a", "-"),), 'step x put a "-"')
        self.steps((("x", "put", "a", "7"),), 'step x put a "7"')
        self.steps((("x", "given", "a"),), "step x given a")
        self.steps((("x", "within", "a", "a", "b c"),), 'step x within a "a" "b c"')
        self.steps((("x", "among", "a", ("1", "2", "a")),), 'step x among a "1" "2" "a"')
        self.steps((("x", "before", "a", "c"),), "step x before a c")
        self.steps((("x", "unlike", ("a",)),), "step x unlike a")
        self.steps((("x", "unlike", ("c", "a", "b")),), "step x unlike c a b")
        self.steps((("x", "fill", "a", ()),), "step x fill a")
        self.steps((("x", "fill", "a", ("c", "b")),), "step x fill a c b")
        self.steps((("x", "look", "a", "k", "d", "e", "n"),), "step x look a k d e n")

    def test_numbers(self):
        read = ("r", "read", "a", ("whole",), "n")
        behinds = (("r", "x"),)
        for step, row in [(("x", "put", "n", 0), "put n 0"), (("x", "put", "n", -5), "put n -5"),
                          (("x", "within", "n", -999999999, 999999999), "within n -999999999 999999999"),
                          (("x", "among", "n", (-10, 0, 7)), "among n -10 0 7")]:
            self.steps((read, step), "step r read a whole n", f"step x {row}", "then r x", behinds=behinds)

    def test_behinds_stand_behind_the_steps_of_their_table(self):
        steps = (("u", "given", "a"), ("v", "given", "b"), ("w", "given", "c"))
        tables = (("t", ("of", "s"), steps, (("u", "v"), ("u", "w"), ("v", "w"))), KEYS)
        self.tables(tables, "table t of s", "step u given a", "step v given b", "step w given c",
                    "then u v", "then u w", "then v w", "table k of q")

    def test_programs_with_clashes_too(self):
        self.steps((("z", "put", "a", "x"), ("b", "given", "a")), 'step z put a "x"', "step b given a")

    def test_words_stand_behind_one_blank(self):
        for seed in range(40):
            text = show_program(Drawn(seed).program)
            self.assertRegex(text, r'\A([a-z]+( ([a-z]+|-?[0-9]+|-|:|"([^"\n]|"")*"))*\n?)+\Z')
            self.assertFalse(text.endswith("\n"))

    def test_again_and_by_its_kind(self):
        self.assertEqual(show_program(FULL), show_program(FULL))
        self.assertIs(type(show_program(FULL)), str)


if __name__ == "__main__":
    unittest.main()
