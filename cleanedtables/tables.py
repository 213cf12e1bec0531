"""Tables: all rows of a program's tables, made by doing each step on all rows."""

from cleanedtables.makings import lost_rows, made_rows, made_worths, rows_of_parts
from cleanedtables.originfaults import made_of
from cleanedtables.steps import done


class Row:
    """A row as it is called, with what it is made of, its worths, its marks and its leans.

    Leans are the rows, each (table, row), from which its worths or marks came sideways.
    """

    def __init__(self, called, parts, worths):
        self.called = called
        self.parts = parts
        self.worths = worths
        self.marks = []
        self.leans = []

    def stands(self):
        """Tell whether no step has marked it."""
        return len(self.marks) == 0


class Table:
    """A table's rows, and what was lost on the way to them."""

    def __init__(self, rows, lost):
        self.rows = rows
        self.lost = lost

    def standing(self):
        """Tell the rows that stand."""
        return [row for row in self.rows if row.stands()]


def made_tables(plan, held, orders):
    """Tell all tables by their NAMEs, of the rows held, each table's steps by its order."""
    made = {}
    for place, name in enumerate(list(plan.tables)):
        table = plan.tables[name]
        columns = plan.columns[name]
        made[name] = new_table(table[1], columns[0], held, made)
        order = None if orders is None else orders[place]
        for step in steps_by(table, order):
            do_step(step, name, made[name].rows, made)
        for row in made[name].rows:
            # Other orders make the columns in other orders; those who read them want the told one.
            row.worths = {column: row.worths[column] for column in columns[-1]}
    return made


def steps_by(table, order):
    """Tell a table's steps as an order of their NAMEs has them, in their own order of None."""
    if order is None:
        return table[2]
    steps = {step[0]: step for step in table[2]}
    return [steps[name] for name in order]


def new_table(origin, columns, held, made):
    """Tell a table as its origin makes it, ahead of all steps."""
    if origin[0] == "of":
        return table_of_source(origin[1], columns, held[origin[1]])
    names = made_of(origin)
    stood = {name: [(row.called, row.worths) for row in made[name].standing()] for name in names}
    # Of one table alone there are no others.
    ones, others = stood[names[0]], stood[names[-1]]
    worths = {(name, called): told for name in names for called, told in stood[name]}
    rows = []
    made_of_them = made_rows(origin, ones, others)
    for called, parts in made_of_them:
        of_rows = rows_of_parts(origin, parts)
        told_worths = made_worths(origin, called, parts, [worths[part] for part in of_rows])
        rows.append(Row(called, of_rows, dict(zip(columns, told_worths))))
    return Table(rows, lost_rows(origin, made_of_them, ones, others))


def table_of_source(source, columns, held):
    """Tell the table of a source's rows that are not odd."""
    rows = []
    lost = []
    for number, (worths, reason) in held.items():
        called = (source, number)
        if reason == "":
            rows.append(Row(called, [], dict(zip(columns, worths))))
        else:
            lost.append((source, called, reason))
    return Table(rows, lost)


def do_step(step, name, rows, made):
    """Do a step on all rows of the table of this NAME."""
    # All is asked of the rows as they are ahead of the step.
    for row, (written, marks, leans) in zip(rows, effects_of(step, name, rows, made)):
        row.worths.update(written)
        row.leans.extend(leans)
        if marks:
            row.marks.append(step[0])


def effects_of(step, name, rows, made):
    """Tell for each row what a step writes, whether it marks, and on which rows that leans."""
    if step[1] == "unlike":
        return unlike_effects(step, name, rows)
    if step[1] == "fill":
        return fill_effects(step, name, rows)
    if step[1] == "look":
        return [look_effect(step, row, made[step[3]]) for row in rows]
    effects = []
    for row in rows:
        written, marks = done(step, row.worths)
        effects.append((written, marks, []))
    return effects


def unlike_effects(step, name, rows):
    """Tell for each row whether it stands and is like one ahead that stands so."""
    nearest = {}
    effects = []
    for row in rows:
        worths = tuple([row.worths[column] for column in step[2]])
        leans = []
        if row.stands() and None not in worths:
            if worths in nearest:
                leans.append((name, nearest[worths]))
            nearest[worths] = row.called
        effects.append(({}, len(leans) > 0, leans))
    return effects


def fill_effects(step, name, rows):
    """Tell for each row what fills it from the nearest row ahead that has a worth."""
    _, _, column, keys = step
    nearest = {}
    effects = []
    for row in rows:
        like = tuple([row.worths[key] for key in keys])
        worth = row.worths[column]
        leans = []
        if worth is None and like in nearest:
            worth, called = nearest[like]
            leans.append((name, called))
        elif worth is not None and row.stands():
            nearest[like] = (worth, row.called)
        effects.append(({column: worth}, False, leans))
    return effects


def look_effect(step, row, table):
    """Tell what a row finds in another table, whether it is marked, and on what that leans."""
    _, _, column, name, key, wanted, new = step
    worth = row.worths[column]
    if worth is None:
        return ({new: None}, False, [])
    found = [other for other in table.standing() if other.worths[key] == worth]
    # Of more than one the first two tell already that there is more than one.
    leans = [(name, other.called) for other in found[:2]]
    if len(found) != 1:
        return ({new: None}, True, leans)
    return ({new: found[0].worths[wanted]}, False, leans)
