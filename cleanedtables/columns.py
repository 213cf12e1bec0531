"""Columns: which ones origins and steps name and make, and of which kinds.

All here is of origins and steps whose form is right.
"""

# Where the new column of a step stands that makes one.
NEW_AT = {"glue": 4, "read": 4, "look": 6}


def origin_columns(origin, shapes, tables):
    """Tell each (COLUMN, kind) of an origin, by the shapes and columns of what it names."""
    word = origin[0]
    if word == "of":
        return [(column, "text") for column in shapes[origin[1]][-1]]
    if word == "join":
        return joined_columns(origin, tables)
    if word == "group":
        return grouped_columns(origin, tables)
    if word == "wide":
        return widened_columns(origin, tables)
    return lengthened_columns(origin, tables)


def joined_columns(origin, tables):
    """Tell one's columns, then other's but those of pairs."""
    _, one, other, pairs = origin
    paired = [column for _, column in pairs]
    return list(tables[one]) + [told for told in tables[other] if told[0] not in paired]


def grouped_columns(origin, tables):
    """Tell the keys, then a column for each of the sums."""
    _, one, keys, sums = origin
    kinds = dict(tables[one])
    columns = [(key, kinds[key]) for key in keys]
    for new, word, column in sums:
        columns.append((new, "number" if word == "count" else kinds[column]))
    return columns


def widened_columns(origin, tables):
    """Tell the keys, then a column for each text told, of the worths' kind."""
    _, one, keys, _, worths, told = origin
    kinds = dict(tables[one])
    return [(key, kinds[key]) for key in keys] + [(new, kinds[worths]) for _, new in told]


def lengthened_columns(origin, tables):
    """Tell one's columns that are not told, then the name and the worth of those that are."""
    _, one, told, name, worth = origin
    kept = [column for column in tables[one] if column[0] not in told]
    return kept + [(name, "text"), (worth, dict(tables[one])[told[0]])]


def named_columns(step):
    """Tell the columns of its own table that a step names, its news left out."""
    word = step[1]
    if word in ("glue", "unlike"):
        return list(step[2])
    if word == "before":
        return [step[2], step[3]]
    if word == "fill":
        return [step[2]] + list(step[3])
    return [step[2]]


def news_of(step):
    """Tell the columns that a step makes."""
    word = step[1]
    if word == "cut":
        return list(step[4])
    if word in NEW_AT:
        return [step[NEW_AT[word]]]
    return []


def new_columns(step, tables):
    """Tell each (COLUMN, kind) that a step makes, by the columns of the tables ahead."""
    kind = "text"
    if step[1] == "read":
        kind = "number"
    if step[1] == "look":
        kind = dict(tables[step[3]])[step[5]]
    return [(new, kind) for new in news_of(step)]
