"""Reading: a program of its text."""

from cleanedtables.errors import NoText
from cleanedtables.names import is_name
from cleanedtables.programs import look_program
from cleanedtables.rowforms import THEN_FORM, read_by, source_form, step_form, table_form
from cleanedtables.words import words_of


class Draft:
    """What the rows of a text have told so far of a program."""

    def __init__(self):
        self.sources = []
        self.tables = []
        # The steps and the behinds of each table.
        self.steps = []
        self.behinds = []

    def take(self, words):
        """Take a row's words: whether they are of a form, and stand where they may."""
        if len(words) < 3 or not is_name(words[1]):
            return False
        if words[0] == "source":
            return self.take_source(words)
        if words[0] == "table":
            return self.take_table(words)
        if len(self.tables) == 0:
            return False
        if words[0] == "step":
            return self.take_step(words)
        return words[0] == "then" and self.take_then(words)

    def take_source(self, words):
        """Take a source's words."""
        parts = read_by(source_form(words[2]), words[3:])
        if parts is None or len(self.tables) > 0:
            return False
        if words[2] == "places":
            columns = tuple([column for column, _ in parts[0]])
            parts = [tuple([width for _, width in parts[0]]), columns]
        self.sources.append((words[1], (words[2], *parts)))
        return True

    def take_table(self, words):
        """Take a table's words."""
        parts = read_by(table_form(words[2]), words[3:])
        if parts is None:
            return False
        self.tables.append((words[1], (words[2], *parts)))
        self.steps.append([])
        self.behinds.append([])
        return True

    def take_step(self, words):
        """Take the words of a step of the last table."""
        second = words[4] if len(words) > 4 else ""
        parts = read_by(step_form(words[2], second), words[3:])
        if parts is None or len(self.behinds[-1]) > 0:
            return False
        if words[2] == "read":
            parts = [parts[0], tuple(parts[1:-1]), parts[-1]]
        self.steps[-1].append((words[1], words[2], *parts))
        return True

    def take_then(self, words):
        """Take the words of what must be behind what in the last table."""
        parts = read_by(THEN_FORM, words[1:])
        if parts is None:
            return False
        self.behinds[-1].append(tuple(parts))
        return True

    def whole(self):
        """Tell what all rows are together, a program or none."""
        tables = []
        for (name, origin), steps, behinds in zip(self.tables, self.steps, self.behinds):
            tables.append((name, origin, tuple(steps), tuple(behinds)))
        return (tuple(self.sources), tuple(tables))


def read_program(text):
    """Tell the program that a text, of anything, is."""
    if not isinstance(text, str):
        raise NoText(0)
    rows = text.split("\n")
    draft = Draft()
    for number, row in enumerate(rows):
        if not draft.take(words_of(row)):
            raise NoText(number)
    program = draft.whole()
    if look_program(program) is not None:
        raise NoText(len(rows))
    return program
