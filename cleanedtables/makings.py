"""Makings: which rows tables made of others have, of what, and with which worths.

The rows that stand in the tables made of are told as tuples of (row, worths), worths
a dict by columns.
"""

from cleanedtables.worths import rank


def made_rows(origin, ones, others):
    """Tell each row that an origin makes of one's and other's rows, with the parts it is made of.

    Parts are rows of one; of join one's row and other's; of wide (COLUMN, row).
    """
    word = origin[0]
    if word == "join":
        return joined(origin, ones, others)
    if word == "group":
        return grouped(origin, ones)
    if word == "wide":
        return widened(origin, ones)
    return lengthened(origin, ones)


def joined(origin, ones, others):
    """Tell the rows of a join."""
    pairs = origin[3]
    made = []
    for row, worths in ones:
        like = [worths[column] for column, _ in pairs]
        if None in like:
            continue
        for other, other_worths in others:
            if like == [other_worths[column] for _, column in pairs]:
                made.append(((row, other), (row, other)))
    return made


def grouped(origin, ones):
    """Tell the rows of a group, each called by its keys' worths."""
    parts = {}
    for row, worths in ones:
        keys = keys_of(origin, worths)
        parts.setdefault(keys, []).append(row)
    return [(keys, tuple(parts[keys])) for keys in by_rank(parts)]


def widened(origin, ones):
    """Tell the rows of a wide, each called by its keys' worths."""
    firsts = {}
    for row, worths in ones:
        if is_strange(origin, worths):
            continue
        of_keys = firsts.setdefault(keys_of(origin, worths), {})
        of_keys.setdefault(worths[origin[3]], row)
    made = []
    for keys in by_rank(firsts):
        parts = [(new, firsts[keys][text]) for text, new in origin[5] if text in firsts[keys]]
        made.append((keys, tuple(parts)))
    return made


def lengthened(origin, ones):
    """Tell the rows of a long, each called by its row and the column told."""
    return [((row, column), (row,)) for row, _ in ones for column in origin[2]]


def keys_of(origin, worths):
    """Tell the worths of a group's or a wide's keys."""
    return tuple([worths[key] for key in origin[2]])


def is_strange(origin, worths):
    """Tell whether the names worth of a row is none that a wide tells."""
    return worths[origin[3]] not in [text for text, _ in origin[5]]


def by_rank(keyed):
    """Tell the keys' worths of a dict as they rise."""
    return sorted(list(keyed), key=lambda keys: [rank(worth) for worth in keys])


def rows_of_parts(origin, parts):
    """Tell (table, row) of each row among the parts."""
    if origin[0] == "join":
        return [(origin[1], parts[0]), (origin[2], parts[1])]
    if origin[0] == "wide":
        return [(origin[1], row) for _, row in parts]
    return [(origin[1], row) for row in parts]


def made_worths(origin, row, parts, worths):
    """Tell the worths of a made row, in order, by the worths of each of its parts' rows."""
    word = origin[0]
    if word == "join":
        return joined_worths(origin, worths)
    if word == "group":
        return list(row) + [summed(told, worths) for told in origin[3]]
    if word == "wide":
        return widened_worths(origin, row, parts, worths)
    return lengthened_worths(origin, row, worths)


def joined_worths(origin, worths):
    """Tell one's worths, then other's but those of pairs."""
    paired = [column for _, column in origin[3]]
    kept = [worth for column, worth in worths[1].items() if column not in paired]
    return list(worths[0].values()) + kept


def summed(told, worths):
    """Tell one of the sums of a group's rows."""
    _, word, column = told
    if word == "count":
        return len(worths)
    given = [row[column] for row in worths if row[column] is not None]
    if word == "total":
        return sum(given)
    if len(given) == 0:
        return None
    if word == "least":
        return min(given)
    if word == "most":
        return max(given)
    return given[0]


def widened_worths(origin, row, parts, worths):
    """Tell the keys' worths, then the worth of each column told, None where no row has it."""
    found = {}
    for (new, _), told in zip(parts, worths):
        found[new] = told[origin[4]]
    return list(row) + [found.get(new) for _, new in origin[5]]


def lengthened_worths(origin, row, worths):
    """Tell the worths of the columns not told, then the column that the row is of and its worth."""
    kept = [worth for column, worth in worths[0].items() if column not in origin[2]]
    return kept + [row[1], worths[0][row[1]]]


def lost_rows(origin, made, ones, others):
    """Tell (table made of, row, reason) of each row that comes to no row made."""
    if origin[0] == "join":
        return lone_rows(origin, made, ones, others)
    if origin[0] == "wide":
        return strange_and_twice(origin, made, ones)
    return []


def lone_rows(origin, made, ones, others):
    """Tell the rows that have no part in a join, one's ahead of other's."""
    left = {row: True for (row, _), _ in made}
    right = {other: True for (_, other), _ in made}
    lone = [(origin[1], row, "lone") for row, _ in ones if row not in left]
    return lone + [(origin[2], row, "lone") for row, _ in others if row not in right]


def strange_and_twice(origin, made, ones):
    """Tell the rows of one that give no worth to a wide's row, in one's order."""
    firsts = {row: True for _, parts in made for _, row in parts}
    lost = []
    for row, worths in ones:
        if is_strange(origin, worths):
            lost.append((origin[1], row, "strange"))
        elif row not in firsts:
            lost.append((origin[1], row, "twice"))
    return lost
