"""Programs: what the first fault of one is, and which columns its tables have."""

from cleanedtables.columns import new_columns, origin_columns
from cleanedtables.names import are_unlike, is_name
from cleanedtables.originfaults import is_origin, origin_fault
from cleanedtables.shapes import is_shape
from cleanedtables.stepfaults import behinds_fault, step_fault

MOST_SOURCES = 3
MOST_TABLES = 6


def look_program(thing):
    """Tell None of a program, else (t, s, why) of the first fault of a thing of any kind."""
    why = sources_fault(thing)
    if why != "":
        return (-1, -1, why)
    shapes = dict(thing[0])
    tables = {}
    for place, table in enumerate(thing[1]):
        at, why = table_fault(table, shapes, tables)
        if why != "":
            return (place, at, why)
        tables[table[0]] = table_columns(table, shapes, tables)
    return None


def sources_fault(thing):
    """Tell why a thing is no pair of sources and tables, or its sources are at fault."""
    if not isinstance(thing, tuple) or len(thing) != 2:
        return "form"
    sources, tables = thing
    if not isinstance(sources, tuple) or not 1 <= len(sources) <= MOST_SOURCES:
        return "form"
    if not isinstance(tables, tuple) or not 1 <= len(tables) <= MOST_TABLES:
        return "form"
    if not all([is_source(source) for source in sources]):
        return "form"
    return "" if are_unlike([name for name, _ in sources]) else "name"


def is_source(thing):
    """Tell whether a thing, of any kind, is a (NAME, shape)."""
    return isinstance(thing, tuple) and len(thing) == 2 and is_name(thing[0]) and is_shape(thing[1])


def table_fault(table, shapes, tables):
    """Tell where and why a table is at fault, why "" where it is not."""
    if not is_table(table):
        return (-1, "form")
    name, origin, steps, behinds = table
    if name in shapes or name in tables:
        return (-1, "name")
    why = origin_fault(origin, shapes, tables)
    if why != "":
        return (-1, why)
    kinds = dict(origin_columns(origin, shapes, tables))
    names = []
    for place, step in enumerate(steps):
        why = step_fault(step, names, kinds, tables)
        if why != "":
            return (place, why)
        names.append(step[0])
        kinds.update(new_columns(step, tables))
    return (len(steps), behinds_fault(behinds, names))


def is_table(thing):
    """Tell whether a thing, of any kind, is a table by its form, its steps and behinds left out."""
    if not isinstance(thing, tuple) or len(thing) != 4:
        return False
    name, origin, steps, behinds = thing
    if not isinstance(steps, tuple) or not isinstance(behinds, tuple):
        return False
    return is_name(name) and is_origin(origin)


def table_columns(table, shapes, tables):
    """Tell the tuple of each (COLUMN, kind) of a table behind all steps."""
    columns = origin_columns(table[1], shapes, tables)
    for step in table[2]:
        columns.extend(new_columns(step, tables))
    return tuple(columns)


def all_columns(program):
    """Tell the columns of all tables behind all steps, by the tables' NAMEs."""
    shapes = dict(program[0])
    tables = {}
    for table in program[1]:
        tables[table[0]] = table_columns(table, shapes, tables)
    return tables


def columns_of(program, table):
    """Tell the tuple of each (COLUMN, kind) of the table of this NAME, behind all steps."""
    return all_columns(program)[table]
