"""Running: all tables of a program by the texts of its sources."""

from cleanedtables.held import held_rows
from cleanedtables.plans import Plan
from cleanedtables.tables import made_tables
from cleanedtables.touches import refuse_clashes


def run(program, texts, *, orders=None):
    """Tell (table, rows, lost) of all tables, in order."""
    refuse_clashes(program)
    return run_held(program, held_rows(program, texts), orders)


def run_held(program, held, orders):
    """Tell (table, rows, lost) of all tables, of the rows held."""
    plan = Plan(program)
    tables = made_tables(plan, held, orders)
    return tuple([(name, told_rows(table), tuple(table.lost)) for name, table in tables.items()])


def told_rows(table):
    """Tell (row, worths, marks) of all rows of a table."""
    return tuple([(row.called, tuple(list(row.worths.values())), tuple(sorted(row.marks)))
                  for row in table.rows])
