"""Lots: the rows that lean on one another, and a program run on some of its sources' rows alone."""

from cleanedtables.errors import NoRow
from cleanedtables.held import held_rows, only_rows
from cleanedtables.makings import is_strange, keys_of
from cleanedtables.plans import Plan
from cleanedtables.running import run_held
from cleanedtables.sames import is_one_same
from cleanedtables.tables import made_tables
from cleanedtables.touches import refuse_clashes


def lot_of(program, texts, table, row):
    """Tell the (table, row) of the least lot that has a row, of any kind."""
    refuse_clashes(program)
    plan = Plan(program)
    made = made_tables(plan, held_rows(program, texts), None)
    if not is_one_same([one.called for one in made[table].rows], row):
        raise NoRow(row)
    return lot_held(plan, made, table, row)


def lot_held(plan, made, table, row):
    """Tell the (table, row) of the least lot that has a row of the tables made."""
    lot = closed((table, row), links_of(plan, made), joins_of(plan, made))
    return tuple([here for here in all_rows(made) if here in lot])


def all_rows(made):
    """Tell (table, row) of all rows of all tables, in order."""
    return [(name, row.called) for name, table in made.items() for row in table.rows]


def closed(start, links, joins):
    """Tell a dict of all that a lot has that has this (table, row)."""
    lot = {start: True}
    waiting = [start]
    while len(waiting) > 0:
        here = waiting.pop()
        # A row of a join comes with both its rows, so it waits for the later one.
        joined = [row for other, row in joins.get(here, []) if other in lot]
        for other in links.get(here, []) + joined:
            if other not in lot:
                lot[other] = True
                waiting.append(other)
    return lot


def links_of(plan, made):
    """Tell for each (table, row) those that a lot has that has it, rows of joins of it left out."""
    links = {here: [] for here in all_rows(made)}
    for name, table in made.items():
        for row in table.rows:
            links[(name, row.called)].extend(row.parts + row.leans)
    for one, other in links_onward(plan, made) + links_beside(plan, made):
        links[one].append(other)
    return links


def links_onward(plan, made):
    """Tell (row, row made of it) of all rows of group, wide and long."""
    links = []
    for name, table in made.items():
        origin = plan.tables[name][1]
        if origin[0] in ("group", "long"):
            links.extend([(part, (name, row.called)) for row in table.rows for part in row.parts])
        if origin[0] == "wide":
            # A row behind the first ones has no part, but is of the same keys.
            for row in made[origin[1]].standing():
                if not is_strange(origin, row.worths):
                    links.append(((origin[1], row.called), (name, keys_of(origin, row.worths))))
    return links


def links_beside(plan, made):
    """Tell each two rows that are of the same row of a source."""
    of_source = {}
    for name, table in made.items():
        if plan.tables[name][1][0] == "of":
            for row in table.rows:
                of_source.setdefault(row.called, []).append((name, row.called))
    return [(one, other) for rows in of_source.values() for one in rows for other in rows]


def joins_of(plan, made):
    """Tell for each (table, row) the (other's, join's) of all rows of joins that it has a part in."""
    joins = {}
    for name, table in made.items():
        if plan.tables[name][1][0] == "join":
            for row in table.rows:
                one, other = row.parts
                joins.setdefault(one, []).append((other, (name, row.called)))
                joins.setdefault(other, []).append((one, (name, row.called)))
    return joins


def sources_of(program, lot):
    """Tell the (SOURCE, number) of a lot's rows of tables that are of a source, rising."""
    of_source = [table[0] for table in program[1] if table[1][0] == "of"]
    return tuple(sorted({row for table, row in lot if table in of_source}))


def run_only(program, texts, only):
    """Tell what run tells where these (SOURCE, number) are all the rows that the sources have."""
    refuse_clashes(program)
    return run_held(program, only_rows(held_rows(program, texts), only), None)
