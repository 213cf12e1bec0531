"""Rules: what a thing's answer is, and which things it asks for on the way, one after the other.

Each rule is handed `ask`, which tells the answer of the thing that it is asked.
"""

from cleanedtables.makings import made_rows, made_worths, rows_of_parts
from cleanedtables.originfaults import made_of
from cleanedtables.steps import done


def rule_of(thing):
    """Tell the rule of a thing."""
    return RULES[thing[0]]


def source_rule(plan, held, thing, ask):
    """Tell the numbers of a source's rows that are not odd."""
    rows = held[thing[1]]
    return tuple([number for number, (_, reason) in rows.items() if reason == ""])


def line_rule(plan, held, thing, ask):
    """Tell the worths of a source's row, None of an odd one."""
    worths, reason = held[thing[1]][thing[2]]
    return worths if reason == "" else None


def rows_rule(plan, held, thing, ask):
    """Tell the rows of a table, as they are called."""
    origin = plan.tables[thing[1]][1]
    if origin[0] == "of":
        return tuple([(origin[1], number) for number in ask(("source", origin[1]))])
    return tuple([row for row, _ in made_by_asking(plan, origin, ask)])


def parts_rule(plan, held, thing, ask):
    """Tell of what a row of a group or a wide is made."""
    origin = plan.tables[thing[1]][1]
    for row, parts in made_by_asking(plan, origin, ask):
        if row == thing[2]:
            return parts
    return ()


def made_by_asking(plan, origin, ask):
    """Tell the rows that an origin makes, with their parts, asking for all that stand."""
    names = made_of(origin)
    rows = [(name, ask(("rows", name))) for name in names]
    stood = [standing(plan, name, told, ask) for name, told in rows]
    return made_rows(origin, stood[0], stood[-1])


def standing(plan, name, rows, ask):
    """Tell (row, worths) of those of a table's rows that stand, worths a dict by columns."""
    found = []
    for row in rows:
        worths, marks = ask(whole_row(plan, name, row))
        if len(marks) == 0:
            found.append((row, dict(zip(plan.columns[name][-1], worths))))
    return found


def whole_row(plan, name, row):
    """Tell the thing that asks for a row behind all steps."""
    return ("row", name, plan.steps_of(name), row)


def above_rule(plan, held, thing, ask):
    """Tell the row ahead of a row, None of the first one."""
    rows = ask(("rows", thing[1]))
    place = rows.index(thing[2])
    return None if place == 0 else rows[place - 1]


def keyed_rule(plan, held, thing, ask):
    """Tell the rows that stand with a worth in a column."""
    _, name, column, worth = thing
    found = standing(plan, name, ask(("rows", name)), ask)
    return tuple([row for row, worths in found if worths[column] == worth])


def row_rule(plan, held, thing, ask):
    """Tell (worths, marks) of a row behind so many steps."""
    _, name, many, row = thing
    if many == 0:
        return (first_worths(plan, name, row, ask), ())
    told, marks = ask(("row", name, many - 1, row))
    step = plan.tables[name][2][many - 1]
    worths = dict(zip(plan.columns[name][many - 1], told))
    written, is_marked = step_done(plan, thing, step, (worths, marks), ask)
    worths.update(written)
    if is_marked:
        marks = tuple(sorted([step[0]] + list(marks)))
    return (tuple([worths[column] for column in plan.columns[name][many]]), marks)


def first_worths(plan, name, row, ask):
    """Tell the worths of a row ahead of all steps."""
    origin = plan.tables[name][1]
    if origin[0] == "of":
        return ask(("line", row[0], row[1]))
    parts = row
    if origin[0] in ("group", "wide"):
        parts = ask(("parts", name, row))
    if origin[0] == "long":
        parts = (row[0],)
    worths = []
    for one, part in rows_of_parts(origin, parts):
        told, _ = ask(whole_row(plan, one, part))
        worths.append(dict(zip(plan.columns[one][-1], told)))
    return tuple(made_worths(origin, row, parts, worths))


def step_done(plan, thing, step, state, ask):
    """Tell what a step writes of a row and whether it marks; state is (worths, marks) ahead of it."""
    worths, marks = state
    if step[1] == "unlike":
        if len(marks) > 0 or None in [worths[column] for column in step[2]]:
            return ({}, False)
        return ({}, giver_above(plan, thing, step, worths, ask) is not None)
    if step[1] == "fill":
        if worths[step[2]] is not None:
            return ({}, False)
        giver = giver_above(plan, thing, step, worths, ask)
        return ({step[2]: None if giver is None else giver[step[2]]}, False)
    if step[1] == "look":
        return looked_up(plan, step, worths[step[2]], ask)
    return done(step, worths)


def giver_above(plan, thing, step, worths, ask):
    """Tell the worths of the nearest row above that marks a row, or gives it a worth; None of none."""
    _, name, many, row = thing
    above = ask(("above", name, row))
    while above is not None:
        told, marks = ask(("row", name, many - 1, above))
        others = dict(zip(plan.columns[name][many - 1], told))
        if len(marks) == 0 and gives(step, worths, others):
            return others
        above = ask(("above", name, above))
    return None


def gives(step, worths, others):
    """Tell whether a row above that stands is like a row in all that an unlike or a fill asks for."""
    if step[1] == "unlike":
        return all([worths[column] == others[column] for column in step[2]])
    if others[step[2]] is None:
        return False
    return all([worths[key] == others[key] for key in step[3]])


def looked_up(plan, step, worth, ask):
    """Tell what a look writes and whether it marks."""
    _, _, _, name, key, wanted, new = step
    if worth is None:
        return ({new: None}, False)
    found = ask(("keyed", name, key, worth))
    if len(found) != 1:
        return ({new: None}, True)
    told, _ = ask(whole_row(plan, name, found[0]))
    return ({new: dict(zip(plan.columns[name][-1], told))[wanted]}, False)


RULES = {
    "source": source_rule,
    "line": line_rule,
    "rows": rows_rule,
    "row": row_rule,
    "above": above_rule,
    "keyed": keyed_rule,
    "parts": parts_rule,
}
