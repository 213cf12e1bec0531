"""Ledgers: what became of each row of each source."""

from cleanedtables.held import held_rows
from cleanedtables.originfaults import made_of
from cleanedtables.plans import Plan
from cleanedtables.tables import made_tables
from cleanedtables.touches import refuse_clashes


def ledger(program, texts):
    """Tell ((SOURCE, number), fates) of each row of each source."""
    refuse_clashes(program)
    return ledger_held(program, held_rows(program, texts))


def ends_of(program):
    """Tell the tables of which none is made, in order."""
    used = [name for table in program[1] for name in made_of(table[1])]
    return tuple([table[0] for table in program[1] if table[0] not in used])


def ledger_held(program, held):
    """Tell ((SOURCE, number), fates) of each row held."""
    made = made_tables(Plan(program), held, None)
    fates = fates_by_rows(program, made)
    onward = rows_onward(made)
    told = []
    for source, rows in held.items():
        tables = [table[0] for table in program[1] if table[1] == ("of", source)]
        for number, (_, reason) in rows.items():
            called = (source, number)
            if reason != "":
                told.append((called, (("odd", reason),)))
                continue
            reached = all_onward([(name, called) for name in tables], onward)
            found = [fate for here in reached for fate in fates.get(here, [])]
            told.append((called, tuple(sorted(set(found)))))
    return tuple(told)


def fates_by_rows(program, made):
    """Tell for each (table, row) the fates that it has itself."""
    ends = ends_of(program)
    fates = {}
    for name, table in made.items():
        for row in table.rows:
            if not row.stands():
                fates[(name, row.called)] = [("marked", name, tuple(sorted(row.marks)))]
            elif name in ends:
                fates[(name, row.called)] = [("end", name)]
        # What is lost of a source is odd, and of no table.
        for one, called, reason in table.lost:
            if one in made:
                fates.setdefault((one, called), []).append(("lost", name, reason))
    return fates


def rows_onward(made):
    """Tell for each (table, row) the ones that are made of it."""
    onward = {}
    for name, table in made.items():
        for row in table.rows:
            for part in row.parts:
                onward.setdefault(part, []).append((name, row.called))
    return onward


def all_onward(starts, onward):
    """Tell these (table, row) and all that come of them, as a dict of True."""
    reached = {here: True for here in starts}
    waiting = list(starts)
    while len(waiting) > 0:
        here = waiting.pop()
        for other in onward.get(here, []):
            if other not in reached:
                reached[other] = True
                waiting.append(other)
    return reached
