"""Desk: a bench that is told what to do, and asked, by lines of words."""

from cleanedtables.benches import Bench
from cleanedtables.errors import NoLine, NoRow
from cleanedtables.ledgers import ledger_held
from cleanedtables.lots import lot_held, sources_of
from cleanedtables.orders import orders_of
from cleanedtables.plans import Plan
from cleanedtables.reading import read_program
from cleanedtables.refusals import refuse_source, refuse_table
from cleanedtables.rowforms import read_by
from cleanedtables.tables import made_tables
from cleanedtables.words import words_of, written_worth

DONE = "done"
BETWEEN_ROWS = " / "
NO_ROWS = "."
FORMS = {
    "put": ((("name", "number", "name", "cell"), ()),),
    "drop": ((("name", "number"), ()),),
    "undo": (((), ()),),
    "redo": (((), ()),),
    "add": ((("name",), ("cell",)),),
    "text": ((("name",), ()),),
    "table": ((("name",), ()),),
    "marked": ((("name",), ()),),
    "fate": ((("name", "number"), ()),),
    "lot": ((("name", "number"), ()),),
    "made": (((), ()),),
    "order": ((("name",), ()),),
}


def rows_text(rows):
    """Tell the text of rows of words."""
    if len(rows) == 0:
        return NO_ROWS
    return BETWEEN_ROWS.join([" ".join(words) for words in rows])


def say_put(bench, source, number, column, worth):
    """Tell a cell otherwise."""
    bench.put(source, number, column, worth)
    return DONE


def say_drop(bench, source, number):
    """Take a row away."""
    bench.drop(source, number)
    return DONE


def say_undo(bench):
    """Take the last deed back."""
    bench.undo()
    return DONE


def say_redo(bench):
    """Do the last deed again that was taken back."""
    bench.redo()
    return DONE


def say_add(bench, source, worths):
    """Put a row behind all: its number."""
    return str(bench.add(source, worths))


def say_text(bench, source):
    """Tell a source's text."""
    return bench.text_of(source)


def say_table(bench, name):
    """Tell the worths of the rows of a table that stand."""
    rows = [worths for _, worths, marks in bench.rows_of(name) if len(marks) == 0]
    return rows_text([[written_worth(worth) for worth in worths] for worths in rows])


def say_marked(bench, name):
    """Tell the marks of the rows of a table that are marked."""
    return rows_text([marks for _, _, marks in bench.rows_of(name) if len(marks) > 0])


def say_fate(bench, source, number):
    """Tell what became of a row of a source."""
    refuse_source(bench.program, source)
    held = bench.held_now()
    if number not in held[source]:
        raise NoRow(number)
    fates = dict(ledger_held(bench.program, held))[(source, number)]
    return rows_text([fate_words(fate) for fate in fates])


def fate_words(fate):
    """Tell the words of a fate."""
    if fate[0] == "marked":
        return [fate[0], fate[1], *fate[2]]
    return list(fate)


def say_lot(bench, name, place):
    """Tell the source rows of the lot of a table's row, by its place."""
    program = bench.program
    refuse_table(program, name)
    plan = Plan(program)
    made = made_tables(plan, bench.held_now(), None)
    rows = made[name].rows
    if not 0 <= place < len(rows):
        raise NoRow(place)
    lot = lot_held(plan, made, name, rows[place].called)
    return rows_text([[source, str(number)] for source, number in sources_of(program, lot)])


def say_made(bench):
    """Tell how many things were made since this was asked last."""
    return str(len(bench.made()))


def say_order(bench, name):
    """Tell how many orders of a table's steps there are."""
    refuse_table(bench.program, name)
    return str(orders_of(bench.program, name))


ACTIONS = {
    "put": say_put,
    "drop": say_drop,
    "undo": say_undo,
    "redo": say_redo,
    "add": say_add,
    "text": say_text,
    "table": say_table,
    "marked": say_marked,
    "fate": say_fate,
    "lot": say_lot,
    "made": say_made,
    "order": say_order,
}


class Desk:
    """A bench of a program's text, its sources empty at first."""

    def __init__(self, text):
        program = read_program(text)
        self.columns = {source: len(shape[-1]) for source, shape in program[0]}
        self.bench = Bench(program, tuple(sorted([(source, "") for source, _ in program[0]])))

    def say(self, line):
        """Tell the answer to a line, of anything."""
        words = words_of(line) if isinstance(line, str) else []
        if len(words) == 0 or words[0] not in FORMS:
            raise NoLine(line)
        parts = read_by(FORMS[words[0]], words[1:])
        if parts is None or (words[0] == "add" and not self.is_fitting(parts)):
            raise NoLine(line)
        action = ACTIONS[words[0]]
        return action(self.bench, *parts)

    def is_fitting(self, parts):
        """Tell whether an add to one of the sources has a worth for each column."""
        source, worths = parts
        return source not in self.columns or len(worths) == self.columns[source]
