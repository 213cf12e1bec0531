"""Programs and texts for tests: one with each origin and each word, and others drawn at random."""

import random

from cleanedtables.programs import columns_of, look_program
from cleanedtables.touches import clashes

BILLS = ("signs", ",", '"', ("who", "place", "day", "sum"))
TOWNS = ("places", (4, 8), ("code", "title"))
NOTES = ("named", ";", ("name", "note"))

PAID_STEPS = (
    ("spellit", "spell", "place", (("B", "bern"), ("X", None), ("bn", "bern"))),
    ("putit", "put", "who", "nobody"),
    ("readday", "read", "day", ("day", "dmy"), "dated"),
    ("readsum", "read", "sum", ("amount", 2), "cents"),
    ("cutit", "cut", "who", " ", ("first", "last")),
    ("given", "given", "dated"),
    ("within", "within", "cents", 0, 999999),
    ("among", "among", "place", ("basel", "bern", "chur")),
    ("before", "before", "first", "last"),
    ("unlike", "unlike", ("who", "cents")),
    ("fill", "fill", "place", ("who",)),
    ("look", "look", "place", "town", "title", "code", "zip"),
)
PAID_BEHINDS = (
    ("among", "fill"), ("among", "unlike"), ("before", "fill"), ("before", "unlike"),
    ("cutit", "before"), ("cutit", "fill"), ("cutit", "unlike"), ("fill", "look"),
    ("given", "fill"), ("given", "unlike"), ("putit", "cutit"), ("putit", "fill"),
    ("putit", "unlike"), ("readday", "fill"), ("readday", "given"), ("readday", "unlike"),
    ("readsum", "fill"), ("readsum", "unlike"), ("readsum", "within"), ("spellit", "among"),
    ("spellit", "fill"), ("unlike", "fill"), ("unlike", "look"), ("within", "fill"),
    ("within", "unlike"),
)
TABLES = (
    ("town", ("of", "towns"), (("glueit", "glue", ("title", "code"), "/", "both"),), ()),
    ("paid", ("of", "bills"), PAID_STEPS, PAID_BEHINDS),
    ("both", ("join", "paid", "town", (("zip", "code"), ("place", "title"))), (), ()),
    ("sums", ("group", "both", ("place",), (
        ("many", "count", None), ("all", "total", "cents"), ("low", "least", "dated"),
        ("one", "first", "who"))), (("some", "within", "many", 1, 3),), ()),
    ("long", ("long", "sums", ("low", "all"), "what", "worth"), (), ()),
    ("wide", ("wide", "long", ("place",), "what", "worth", (("all", "every"), ("low", "early"))), (), ()),
)
# Each of the five origins, each of the twelve words, each of the three shapes.
FULL = ((("bills", BILLS), ("towns", TOWNS), ("notes", NOTES)), TABLES)
FULL_TEXTS = (
    ("bills", "ann lee,B,1.2.2024,10.50\n"
              "bob ode,,2.2.2024,3\n"
              "ann lee,chur,3.2.2024,10.5\n"
              "ann lee,,4.2.2024,7\n"
              "zoe abt,bern,30.2.2024,7\n"
              "cat\n"
              "bob ode,X,5.2.2024,-7\n"
              "bob ode,ulm,6.2.2024,8\n"
              ",bern,7.2.2024,9\n"
              '"cy, z",basel,,9\n'
              "bo dan,bn,9.2.2024,x\n"),
    ("towns", "3000bern\n4000basel\n7000chur\n7001chur\n8000zug and more\n"),
    ("notes", "name=ann;note=x\nname\n"),
)

MARKING = ("cut", "read", "given", "within", "among", "before")
NAMES = ("t", "u", "v", "w", "x", "y")
WORDS = ("a", "b", "ab", "a b", "1", "2", "-3", "a,b", "x b")
SPELLINGS = (("1", "a"), ("a", None), ("b", "ab"), ("x", "a"))


def letters(number):
    """A new name for each number."""
    return "n" + chr(ord("a") + number // 26) + chr(ord("a") + number % 26)


def origin_words(tables, one):
    """Texts that a table's columns are likely to have."""
    told = [table[1][2] for table in tables if table[0] == one and table[1][0] == "long"]
    return list(told[0]) if told and len(told[0]) > 1 else ["a", "b", "1", "a b"]


class Drawn:
    """A program drawn at random, its steps without clashes, with texts."""

    def __init__(self, seed):
        self.rng = random.Random(seed)
        self.many = 0
        self.sources = tuple(self.source(name) for name in ("p", "q", "r")[:self.rng.randint(1, 3)])
        self.tables = ()
        for name in NAMES[:self.rng.randint(2, 6)]:
            self.tables += (self.table(name),)
        self.program = (self.sources, self.tables)
        self.texts = tuple((name, self.text(shape)) for name, shape in self.sources)

    def new(self):
        """A name that nothing has so far."""
        self.many += 1
        return letters(self.many)

    def source(self, name):
        columns = tuple(self.new() for _ in range(self.rng.randint(2, 4)))
        shape = self.rng.choice([("signs", ",", '"', columns), ("signs", ";", "'", columns),
                                 ("places", (3,) * len(columns), columns), ("named", "|", columns)])
        return (name, shape)

    def text(self, shape):
        """A text of a few rows, some of them odd."""
        rows = []
        for _ in range(self.rng.randint(3, 9)):
            cells = [self.rng.choice(WORDS + ("", "a", "a", "b", "b")) for _ in shape[-1]]
            if shape[0] == "signs":
                row = shape[1].join(f'{shape[2]}{cell}{shape[2]}' if shape[1] in cell else cell for cell in cells)
            elif shape[0] == "places":
                row = "".join(cell.ljust(3) for cell in cells)
            else:
                row = "|".join(f"{column}={cell}" for column, cell in zip(shape[-1], cells))
            if self.rng.random() < 0.12:
                row = self.rng.choice(['"', "'", "nope", row * 5])
            rows.append(row)
        return "\n".join(rows) + self.rng.choice(["", "\n"])

    def table(self, name):
        """A table with steps, without clashes."""
        origin = None
        while origin is None:
            word = self.rng.choice(["of", "join", "join", "group", "wide", "wide", "long"])
            for _ in range(30):
                tried = self.origin(word)
                if look_program((self.sources, self.tables + ((name, tried, (), ()),))) is None:
                    origin = tried
                    break
        steps = ()
        for place in range(self.rng.choice([0, 1, 2, 3, 5, 7])):
            step = (letters(600 + self.rng.randint(0, 60)),) + self.step(name, origin, steps)
            tried = steps + (step,)
            if look_program((self.sources, self.tables + ((name, origin, tried, ()),))) is None:
                steps = tried
        told = (name, origin, steps, ())
        behinds = {(one, other) for _, one, other, _ in clashes((self.sources, (*self.tables, told)))}
        names = [step[0] for step in steps]
        for place in range(1, len(names)):
            if self.rng.random() < 0.1:
                behinds.add((names[place - 1], names[place]))
        return (name, origin, steps, tuple(sorted(behinds)))

    def origin(self, word):
        """An origin of a word, which may have faults."""
        if word == "of" or not self.tables:
            return ("of", self.rng.choice(self.sources)[0])
        one = self.rng.choice(self.tables)[0]
        columns = [column for column, _ in columns_of((self.sources, self.tables), one)]
        if word == "join":
            other = self.rng.choice(self.tables)[0]
            others = [column for column, _ in columns_of((self.sources, self.tables), other)]
            pairs = tuple((self.rng.choice(columns), self.rng.choice(others))
                          for _ in range(self.rng.choice([1, 1, 1, 2])))
            return ("join", one, other, pairs)
        keys = tuple(self.rng.sample(columns, self.rng.randint(0, min(2, len(columns)))))
        if word == "group":
            sums = [(self.new(), "count", None)]
            for _ in range(self.rng.randint(0, 2)):
                sums.append((self.new(), self.rng.choice(["total", "least", "most", "first"]),
                             self.rng.choice(columns)))
            return ("group", one, keys, tuple(sums))
        names, worths = self.rng.choice(columns), self.rng.choice(columns)
        if word == "wide":
            likely = origin_words(self.tables, one)
            told = tuple((text, self.new()) for text in self.rng.sample(likely, self.rng.randint(1, 2)))
            return ("wide", one, keys, names, worths, told)
        return ("long", one, tuple(self.rng.sample(columns, min(len(columns), 2))), self.new(), self.new())

    def step(self, name, origin, steps):
        """A step's word and all behind it."""
        program = (self.sources, self.tables + ((name, origin, steps, ()),))
        kinds = dict(columns_of(program, name))
        columns = sorted(kinds)
        column, other = self.rng.choice(columns), self.rng.choice(columns)
        word = self.rng.choice(["glue", "spell", "spell", "put", "fill", "fill", "fill", "unlike",
                                "unlike", "look", "look", self.rng.choice(MARKING), self.rng.choice(MARKING)])
        low, high = (-3, 3) if kinds[column] == "number" else ("1", "b")
        some = tuple(self.rng.sample(columns, min(len(columns), self.rng.randint(0, 2))))
        if word == "cut":
            return (word, column, self.rng.choice([" ", ","]), (self.new(), self.new()))
        if word == "glue":
            return (word, (column, other), self.rng.choice([" ", "-"]), self.new())
        if word == "spell":
            return (word, column, SPELLINGS)
        if word == "read":
            return (word, column, self.rng.choice([("whole",), ("amount", 2)]), self.new())
        if word == "put":
            return (word, column, high)
        if word == "given":
            return (word, column)
        if word == "within":
            return (word, column, low, high)
        if word == "among":
            return (word, column, tuple(range(-3, 4)) if high == 3 else tuple(sorted(WORDS[1:])))
        if word == "before":
            return (word, column, other)
        if word == "unlike":
            return (word, some or (column,))
        if word == "fill":
            return (word, column, some)
        if not self.tables:
            return (word,)
        table = self.rng.choice(self.tables)[0]
        there = [told for told, _ in columns_of((self.sources, self.tables), table)]
        return (word, column, table, self.rng.choice(there), self.rng.choice(there), self.new())
