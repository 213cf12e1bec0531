"""Refusals of what is handed in as a source or a table, of anything."""

from cleanedtables.errors import NoSource, NoTable


def refuse_source(program, source):
    """Refuse what is no source of a program."""
    if not isinstance(source, str) or source not in dict(program[0]):
        raise NoSource(source)


def refuse_table(program, name):
    """Refuse what is no table of a program."""
    if not isinstance(name, str) or name not in [table[0] for table in program[1]]:
        raise NoTable(name)
