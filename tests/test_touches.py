import itertools
import random
import unittest

from cleanedtables.errors import Clash
from cleanedtables.programs import look_program
from cleanedtables.running import run
from cleanedtables.touches import clashes, touched
from tests.samples import FULL, Drawn

SOURCES = (("s", ("signs", ",", '"', ("a", "b", "c", "d"))),)
AHEAD = ("u", ("of", "s"), (), ())
# Steps each of which touches something else, but for marks.
STEPS = {
    "cut": ("cut", "a", ",", ("z", "x", "y")),
    "glue": ("glue", ("c", "a", "c"), ",", "b"),
    "spell": ("spell", "a", ()),
    "read": ("read", "a", ("whole",), "n"),
    "put": ("put", "a", "x"),
    "given": ("given", "a"),
    "within": ("within", "a", "a", "b"),
    "among": ("among", "a", ("a",)),
    "before": ("before", "b", "a"),
    "unlike": ("unlike", ("c", "a", "b")),
    "fill": ("fill", "b", ("c", "a")),
    "look": ("look", "b", "u", "c", "d", "a"),
}
TOUCHED = {
    "cut": (("a",), ("!", "x", "y", "z")),
    "glue": (("a", "c"), ("b",)),
    "spell": (("a",), ("a",)),
    "read": (("a",), ("!", "n")),
    "put": (("a",), ("a",)),
    "given": (("a",), ("!",)),
    "within": (("a",), ("!",)),
    "among": (("a",), ("!",)),
    "before": (("a", "b"), ("!",)),
    "unlike": (("!", "a", "b", "c"), ("!",)),
    "fill": (("!", "a", "b", "c"), ("b",)),
    "look": (("b",), ("!", "a")),
}


def program_of(steps, behinds=()):
    return (SOURCES, (AHEAD, ("t", ("of", "s"), steps, behinds)))


def by_pairs(program):
    """Clashes by going through all orders: those pairs that stand either way, over what they touch."""
    found = set()
    for name, _, steps, behinds in program[1]:
        names = [step[0] for step in steps]
        orders = [order for order in itertools.permutations(names)
                  if all(order.index(one) < order.index(other) for one, other in behinds)]
        for one, other in itertools.combinations(steps, 2):
            if len({order.index(one[0]) < order.index(other[0]) for order in orders}) < 2:
                continue
            (reads, writes), (other_reads, other_writes) = touched(one), touched(other)
            for what in {*reads, *writes, *other_reads, *other_writes}:
                first = what in writes and (what in other_reads or what in other_writes)
                second = what in other_writes and (what in reads or what in writes)
                both = what in writes and what in other_writes
                if (first or second) and not (
                        what == "!" and both and what not in reads and what not in other_reads):
                    found.add((name, one[0], other[0], what))
    return tuple(sorted(found))


class Touched(unittest.TestCase):

    def test_each_word(self):
        self.assertEqual(len(STEPS), 12)
        for word, step in STEPS.items():
            told = touched(("w", *step))
            self.assertEqual(told, TOUCHED[word], word)
            self.assertEqual([type(part) for part in told], [tuple, tuple])

    def test_by_name(self):
        self.assertEqual(touched(step=("w", "fill", "b", ())), (("!", "b"), ("b",)))
        self.assertEqual(touched(step=("w", "unlike", ("b",))), (("!", "b"), ("!",)))


class Clashes(unittest.TestCase):

    def test_none(self):
        self.assertEqual(clashes(FULL), ())
        self.assertEqual(clashes(program=FULL), ())
        self.assertEqual(clashes(program_of(())), ())

    def told(self, one, other, behinds=()):
        return [what for _, _, _, what in clashes(program_of((("p", *one), ("q", *other)), behinds))]

    def test_one_writes_what_the_other_reads(self):
        self.assertEqual(self.told(("put", "a", "x"), ("given", "a")), ["a"])
        self.assertEqual(self.told(("given", "a"), ("put", "a", "x")), ["a"])
        self.assertEqual(self.told(("read", "a", ("whole",), "n"), ("within", "n", 1, 2)), ["n"])
        self.assertEqual(self.told(("cut", "a", ",", ("x", "y")), ("before", "x", "y")), ["x", "y"])
        self.assertEqual(self.told(("look", "a", "u", "b", "c", "x"), ("glue", ("x", "b"), "-", "y")), ["x"])
        self.assertEqual(self.told(("spell", "a", ()), ("glue", ("a", "b"), "-", "y")), ["a"])
        self.assertEqual(self.told(("fill", "a", ("b",)), ("put", "b", "x")), ["b"])

    def test_both_write(self):
        self.assertEqual(self.told(("put", "a", "x"), ("put", "a", "x")), ["a"])
        self.assertEqual(self.told(("put", "a", "x"), ("spell", "a", ())), ["a"])
        self.assertEqual(self.told(("fill", "a", ()), ("put", "a", "y")), ["a"])
        self.assertEqual(self.told(("fill", "a", ()), ("fill", "a", ("b",))), ["a"])

    def test_what_one_alone_reads_and_writes(self):
        self.assertEqual(self.told(("put", "a", "x"), ("put", "b", "x")), [])
        self.assertEqual(self.told(("spell", "a", ()), ("given", "b")), [])
        self.assertEqual(self.told(("given", "b"), ("spell", "a", ())), [])
        self.assertEqual(self.told(("unlike", ("b",)), ("put", "a", "x")), [])
        self.assertEqual(self.told(("put", "a", "x"), ("unlike", ("b",))), [])

    def test_both_read(self):
        self.assertEqual(self.told(("glue", ("a",), ",", "x"), ("glue", ("a",), ",", "y")), [])
        self.assertEqual(self.told(("fill", "a", ("c",)), ("fill", "b", ("c",))), [])

    def test_marks_that_neither_reads(self):
        marking = ["cut", "read", "given", "within", "among", "before", "look"]
        for one, other in itertools.product(marking, marking):
            if (one, other) not in (("cut", "cut"), ("read", "read"), ("look", "look")):
                self.assertNotIn("!", self.told(STEPS[one], STEPS[other]))

    def test_marks_that_one_reads(self):
        for word, step in STEPS.items():
            writes = "!" in TOUCHED[word][1]
            for asking in [("unlike", ("d",)), ("fill", "d", ())]:
                if asking[0] == "unlike" or word != "fill":
                    self.assertEqual("!" in self.told(asking, step), writes or (
                        word == "fill" and asking[0] == "unlike"), word)
                    self.assertEqual(self.told(asking, step), self.told(step, asking))
        self.assertEqual(self.told(("fill", "d", ()), ("fill", "b", ())), [])
        self.assertEqual(self.told(("unlike", ("d",)), ("unlike", ("c",))), ["!"])
        self.assertEqual(self.told(("unlike", ("d",)), ("fill", "d", ())), ["!", "d"])

    def test_one_behind_the_other(self):
        self.assertEqual(self.told(("put", "a", "x"), ("put", "a", "x"), (("p", "q"),)), [])

    def test_behind_through_others(self):
        steps = tuple((name, "put", "a", "x") for name in "pqrs")
        self.assertEqual(clashes(program_of(steps, (("p", "q"), ("q", "r"), ("r", "s")))), ())
        self.assertEqual(clashes(program_of(steps, (("p", "q"), ("r", "s")))), (
            ("t", "p", "r", "a"), ("t", "p", "s", "a"), ("t", "q", "r", "a"), ("t", "q", "s", "a")))
        self.assertEqual(clashes(program_of(steps, (("p", "q"), ("q", "s"), ("r", "s")))), (
            ("t", "p", "r", "a"), ("t", "q", "r", "a")))

    def test_step_stands_ahead_of_other_in_the_tuple(self):
        steps = (("z", "put", "a", "x"), ("m", "spell", "a", ()), ("b", "given", "a"))
        self.assertEqual(clashes(program_of(steps)), (("t", "m", "b", "a"), ("t", "z", "b", "a"), ("t", "z", "m", "a")))

    def test_of_all_tables_rising(self):
        steps = (("q", "put", "b", "x"), ("p", "put", "b", "x"))
        tables = tuple((name, ("of", "s"), steps, ()) for name in "zta")
        self.assertEqual(clashes((SOURCES, tables)), (
            ("a", "q", "p", "b"), ("t", "q", "p", "b"), ("z", "q", "p", "b")))

    def test_against_all_orders(self):
        rng = random.Random(11)
        words = sorted(STEPS)
        for _ in range(150):
            picked = [rng.choice(words) for _ in range(5)]
            names = rng.sample("abcdefg", 5)
            steps = []
            for place, (name, word) in enumerate(zip(names, picked)):
                step = renewed(STEPS[word], place)
                if look_program(program_of((*steps, (name, *step)))) is None:
                    steps.append((name, *step))
            pairs = list(itertools.combinations([step[0] for step in steps], 2))
            behinds = tuple(sorted(pair for pair in pairs if rng.random() < 0.3))
            program = program_of(tuple(steps), behinds)
            self.assertEqual(clashes(program), by_pairs(program))

    def test_against_all_orders_of_drawn_programs(self):
        for seed in range(20):
            sources, tables = Drawn(seed).program
            bare = (sources, tuple((name, origin, steps[:5], ()) for name, origin, steps, _ in tables))
            self.assertEqual(clashes(bare), by_pairs(bare))


def renewed(step, place):
    """A step whose new columns are called by its place."""
    letter = "klmno"[place]
    news = {"cut": lambda: (*step[:3], (letter + "x", letter + "y")), "glue": lambda: (*step[:3], letter),
            "read": lambda: (*step[:3], letter), "look": lambda: (*step[:5], letter)}
    return news.get(step[0], lambda: step)()


class Refused(unittest.TestCase):

    TWO = (("z", "put", "a", "x"), ("m", "spell", "a", ()), ("b", "given", "a"))
    PROGRAM = (SOURCES, (("w", ("of", "s"), TWO, ()), ("t", ("of", "s"), TWO, (("m", "b"),))))

    def refused(self, **named):
        with self.assertRaises(Clash) as caught:
            run(self.PROGRAM, (("s", "a,b,c,d\n"),), **named)
        told = {"table": "t", "step": "z", "other": "b", "what": "a"}
        self.assertEqual(vars(caught.exception), told)
        self.assertEqual(tuple(told.values()), clashes(self.PROGRAM)[0])

    def test_run_is_refused_with_the_first_clash_and_its_values(self):
        self.refused()
        self.refused(orders=None)

    def test_ahead_of_all_else(self):
        self.refused(orders=(("no",), ("orders",)))
        self.refused(orders=())
        self.refused(orders=7)

    def test_one_clash_is_enough(self):
        program = (SOURCES, (("t", ("of", "s"), (("p", "put", "b", "x"), ("q", "given", "b")), ()),))
        self.assertEqual(clashes(program), (("t", "p", "q", "b"),))
        with self.assertRaises(Clash) as caught:
            run(program, (("s", ""),))
        self.assertEqual(vars(caught.exception), {"table": "t", "step": "p", "other": "q", "what": "b"})

    def test_steps_of_which_one_must_be_behind_do_not_clash(self):
        tables = tuple((*table[:3], (("m", "b"), ("z", "m"))) for table in self.PROGRAM[1])
        (_, rows, _), _ = run((SOURCES, tables), (("s", ",b,c,d\n"),))
        self.assertEqual(rows, ((("s", 0), ("x", "b", "c", "d"), ()),))


if __name__ == "__main__":
    unittest.main()
