"""What is at fault with an origin: its form, a name, a column or a kind."""

from cleanedtables.columns import origin_columns
from cleanedtables.names import are_unlike, are_unlike_names, is_name
from cleanedtables.worths import is_told

MOST_PAIRS = 3
MOST_KEYS = 3
MOST_SUMS = 4
MOST_TOLD = 4
SUMS = ("count", "total", "least", "most", "first")
# How many parts there are of each word.
SIZES = {"of": 2, "join": 4, "group": 4, "wide": 6, "long": 5}


def is_origin(thing):
    """Tell whether a thing, of any kind, is an origin by its form."""
    if not isinstance(thing, tuple) or len(thing) == 0 or not isinstance(thing[0], str):
        return False
    if thing[0] not in FORMS:
        return False
    if len(thing) != SIZES[thing[0]]:
        return False
    is_such = FORMS[thing[0]]
    return is_such(thing)


def is_of(thing):
    """Tell whether ("of", ..) is of a NAME."""
    return is_name(thing[1])


def is_join(thing):
    """Tell whether ("join", ..) is a join by its form."""
    _, one, other, pairs = thing
    if not is_name(one) or not is_name(other) or one == other:
        return False
    if not isinstance(pairs, tuple) or not 1 <= len(pairs) <= MOST_PAIRS:
        return False
    if not all([is_pair_of_names(pair) for pair in pairs]):
        return False
    return are_unlike([column for _, column in pairs])


def is_pair_of_names(thing):
    """Tell whether a thing, of any kind, is a pair of NAMEs."""
    return isinstance(thing, tuple) and len(thing) == 2 and is_name(thing[0]) and is_name(thing[1])


def is_group(thing):
    """Tell whether ("group", ..) is a group by its form."""
    _, one, keys, sums = thing
    if not is_name(one) or not are_unlike_names(keys, 0, MOST_KEYS):
        return False
    if not isinstance(sums, tuple) or not 1 <= len(sums) <= MOST_SUMS:
        return False
    return all([is_sum(told) for told in sums])


def is_sum(thing):
    """Tell whether a thing, of any kind, is one of the sums of a group."""
    if not isinstance(thing, tuple) or len(thing) != 3 or not is_name(thing[0]):
        return False
    if not isinstance(thing[1], str) or thing[1] not in SUMS:
        return False
    if thing[1] == "count":
        return thing[2] is None
    return is_name(thing[2])


def is_wide(thing):
    """Tell whether ("wide", ..) is a wide by its form."""
    _, one, keys, names, worths, told = thing
    if not is_name(one) or not are_unlike_names(keys, 0, MOST_KEYS):
        return False
    if not is_name(names) or not is_name(worths) or names == worths:
        return False
    if not isinstance(told, tuple) or not 1 <= len(told) <= MOST_TOLD:
        return False
    if not all([is_text_with_name(pair) for pair in told]):
        return False
    return are_unlike([text for text, _ in told])


def is_text_with_name(thing):
    """Tell whether a thing, of any kind, is a (text, COLUMN)."""
    if not isinstance(thing, tuple) or len(thing) != 2:
        return False
    return isinstance(thing[0], str) and is_told(thing[0]) and is_name(thing[1])


def is_long(thing):
    """Tell whether ("long", ..) is a long by its form."""
    _, one, told, name, worth = thing
    if not is_name(one) or not are_unlike_names(told, 1, MOST_TOLD):
        return False
    return is_name(name) and is_name(worth)


FORMS = {
    "of": is_of,
    "join": is_join,
    "group": is_group,
    "wide": is_wide,
    "long": is_long,
}


def made_of(origin):
    """Tell the tables that an origin is made of, in its order."""
    if origin[0] == "of":
        return []
    if origin[0] == "join":
        return [origin[1], origin[2]]
    return [origin[1]]


def origin_fault(origin, shapes, tables):
    """Tell why an origin of a right form is at fault, "" where it is not."""
    if not is_there_all(origin, shapes, tables):
        return "name"
    for table, column in columns_wanted(origin):
        if column not in dict(tables[table]):
            return "column"
    if not are_unlike([column for column, _ in origin_columns(origin, shapes, tables)]):
        return "column"
    if not are_kinds_right(origin, tables):
        return "kind"
    return ""


def is_there_all(origin, shapes, tables):
    """Tell whether the source or the tables that an origin names stand ahead."""
    if origin[0] == "of":
        return origin[1] in shapes
    return all([name in tables for name in made_of(origin)])


def columns_wanted(origin):
    """Tell each (table, column) that an origin names."""
    word = origin[0]
    if word == "of":
        return []
    one = origin[1]
    if word == "join":
        pairs = origin[3]
        return [(one, column) for column, _ in pairs] + [(origin[2], column) for _, column in pairs]
    if word == "group":
        summed = [column for _, _, column in origin[3] if column is not None]
        return [(one, column) for column in list(origin[2]) + summed]
    if word == "wide":
        return [(one, column) for column in list(origin[2]) + [origin[3], origin[4]]]
    return [(one, column) for column in origin[2]]


def are_kinds_right(origin, tables):
    """Tell whether all columns that an origin names are of the kinds that it asks for."""
    word = origin[0]
    if word == "of":
        return True
    kinds = dict(tables[origin[1]])
    if word == "join":
        others = dict(tables[origin[2]])
        return all([kinds[column] == others[other] for column, other in origin[3]])
    if word == "group":
        return all([kinds[column] == "number" for _, sum_word, column in origin[3] if sum_word == "total"])
    if word == "wide":
        return kinds[origin[3]] == "text"
    return all([kinds[column] == kinds[origin[2][0]] for column in origin[2]])
