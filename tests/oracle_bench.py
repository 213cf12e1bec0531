"""What the document tells of a bench: rows by their numbers, and what is made, without any haste."""

from cleanedtables.cells import add_row, put_cell
from cleanedtables.lines import lines_of
from tests.oracle_asks import Things


class Benched:
    """A bench as the document tells of it; each deed is done anew from the first texts on."""

    def __init__(self, program, texts):
        self.program = program
        self.texts = texts
        self.shapes = dict(program[0])
        # Each deed that stands is a tuple of (put, add or drop, its arguments).
        self.deeds = []
        self.undone = []
        self.kept = {}
        self.new = []
        self.turn()

    def turn(self):
        """All rows as the deeds leave them: for each source a list of [number, signs, has a line feed]."""
        self.rows = {}
        self.given = {}
        for name, text in self.texts:
            lines = lines_of(self.shapes[name], text)
            self.rows[name] = [[n, text[line[0]:line[1]], line[1] < len(text)] for n, line in enumerate(lines)]
            self.given[name] = len(lines)
        for deeds in self.deeds:
            for deed in deeds:
                self.do(*deed)
        self.things = Things(self.program, tuple((name, self.text(name)) for name, _ in self.texts),
                             {name: [row[0] for row in rows] for name, rows in self.rows.items()})
        self.sure = set()

    def do(self, word, name, *arguments):
        rows = self.rows[name]
        if word == "add":
            if rows:
                rows[-1][2] = True
            rows.append([self.given[name], add_row(self.shapes[name], "", *arguments)[:-1], True])
            self.given[name] += 1
            return self.given[name] - 1
        row = next(row for row in rows if row[0] == arguments[0])
        if word == "drop":
            rows.remove(row)
        else:
            row[1] = put_cell(self.shapes[name], row[1] + "\n", 0, *arguments[1:])[:-1]
        return None

    def text(self, name):
        return "".join(signs + "\n" * feed for _, signs, feed in self.rows[name])

    def deed(self, *deeds):
        self.deeds.append(deeds)
        self.undone = []
        self.turn()

    def undo(self):
        self.undone.append(self.deeds.pop())
        self.turn()

    def redo(self):
        self.deeds.append(self.undone.pop())
        self.turn()

    def answer(self, thing):
        if thing[0] in ("source", "line"):
            return self.things.answer(thing)
        if thing not in self.sure:
            if thing not in self.kept or any(self.answer(other) != got for other, got in self.kept[thing]):
                self.kept[thing] = [(other, self.answer(other)) for other in self.things.asks(thing)]
                self.new.append(thing)
            self.sure.add(thing)
        return self.things.answer(thing)

    def rows_of(self, name):
        rows = self.answer(("rows", name))
        return tuple((row, *self.answer(self.things.whole(name, row))) for row in rows)

    def made(self):
        new, self.new = tuple(self.new), []
        return new
