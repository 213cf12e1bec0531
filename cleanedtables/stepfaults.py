"""What is at fault with a step, or with what must be behind what."""

from cleanedtables.columns import named_columns, news_of
from cleanedtables.forms import is_form
from cleanedtables.names import are_names, are_unlike_names, is_name
from cleanedtables.originfaults import is_pair_of_names
from cleanedtables.worths import is_told, kind_of

FEWEST_NEWS = 2
MOST_NEWS = 4
MOST_GLUED = 4
MOST_UNLIKE = 3
MOST_KEYS = 2
# How many parts there are of each word.
SIZES = {
    "cut": 5, "glue": 5, "spell": 4, "read": 5, "put": 4, "given": 3,
    "within": 5, "among": 4, "before": 4, "unlike": 3, "fill": 4, "look": 7,
}


def is_step(thing):
    """Tell whether a thing, of any kind, is a step by its form."""
    if not isinstance(thing, tuple) or len(thing) < 2 or not is_name(thing[0]):
        return False
    if not isinstance(thing[1], str) or thing[1] not in FORMS:
        return False
    if len(thing) != SIZES[thing[1]]:
        return False
    is_such = FORMS[thing[1]]
    return is_such(thing)


def is_sign(thing):
    """Tell whether a thing, of any kind, is a text of one sign, no line feed."""
    return isinstance(thing, str) and len(thing) == 1 and thing != "\n"


def is_rising(things):
    """Tell whether these things, of one kind, rise, none like another."""
    return all([one < other for one, other in zip(things, things[1:])])


def are_of_one_kind(worths):
    """Tell whether these worths, none None, are of one kind."""
    return all([kind_of(worth) == kind_of(worths[0]) for worth in worths])


def is_cut(thing):
    """Tell whether (.., "cut", ..) is a cut by its form."""
    if not is_name(thing[2]) or not is_sign(thing[3]):
        return False
    return are_unlike_names(thing[4], FEWEST_NEWS, MOST_NEWS)


def is_glue(thing):
    """Tell whether (.., "glue", ..) is a glue by its form."""
    return are_names(thing[2], 1, MOST_GLUED) and is_sign(thing[3]) and is_name(thing[4])


def is_spell(thing):
    """Tell whether (.., "spell", ..) is a spell by its form."""
    if not is_name(thing[2]) or not isinstance(thing[3], tuple):
        return False
    if not all([is_spelling(pair) for pair in thing[3]]):
        return False
    return is_rising([text for text, _ in thing[3]])


def is_spelling(thing):
    """Tell whether a thing, of any kind, is a (text, text or None), all worths."""
    if not isinstance(thing, tuple) or len(thing) != 2:
        return False
    if not isinstance(thing[0], str) or not is_told(thing[0]):
        return False
    return thing[1] is None or (isinstance(thing[1], str) and is_told(thing[1]))


def is_read(thing):
    """Tell whether (.., "read", ..) is a read by its form."""
    return is_name(thing[2]) and is_form(thing[3]) and is_name(thing[4])


def is_put(thing):
    """Tell whether (.., "put", ..) is a put by its form."""
    return is_name(thing[2]) and is_told(thing[3])


def is_given(thing):
    """Tell whether (.., "given", ..) is a given by its form."""
    return is_name(thing[2])


def is_within(thing):
    """Tell whether (.., "within", ..) is a within by its form."""
    _, _, column, low, high = thing
    if not is_name(column) or not is_told(low) or not is_told(high):
        return False
    # Of two kinds neither is above the other: that is a fault of kind.
    return kind_of(low) != kind_of(high) or low <= high


def is_among(thing):
    """Tell whether (.., "among", ..) is an among by its form."""
    if not is_name(thing[2]) or not isinstance(thing[3], tuple) or len(thing[3]) == 0:
        return False
    if not all([is_told(worth) for worth in thing[3]]):
        return False
    # Worths of two kinds can't be sorted: that is a fault of kind.
    return not are_of_one_kind(thing[3]) or is_rising(thing[3])


def is_before(thing):
    """Tell whether (.., "before", ..) is a before by its form."""
    return is_name(thing[2]) and is_name(thing[3]) and thing[2] != thing[3]


def is_unlike(thing):
    """Tell whether (.., "unlike", ..) is an unlike by its form."""
    return are_unlike_names(thing[2], 1, MOST_UNLIKE)


def is_fill(thing):
    """Tell whether (.., "fill", ..) is a fill by its form."""
    _, _, column, keys = thing
    return is_name(column) and are_unlike_names(keys, 0, MOST_KEYS) and column not in keys


def is_look(thing):
    """Tell whether (.., "look", ..) is a look by its form."""
    return are_names(thing[2:], 5, 5)


FORMS = {
    "cut": is_cut,
    "glue": is_glue,
    "spell": is_spell,
    "read": is_read,
    "put": is_put,
    "given": is_given,
    "within": is_within,
    "among": is_among,
    "before": is_before,
    "unlike": is_unlike,
    "fill": is_fill,
    "look": is_look,
}


def step_fault(step, ahead, kinds, tables):
    """Tell why a step is at fault, "" where it is not.

    ahead are the NAMEs of the steps ahead, kinds those of the columns, tables the
    columns of the tables ahead.
    """
    if not is_step(step):
        return "form"
    if step[0] in ahead or (step[1] == "look" and step[3] not in tables):
        return "name"
    if not are_columns_right(step, kinds, tables):
        return "column"
    if not is_kind_right(step, kinds, tables):
        return "kind"
    return ""


def are_columns_right(step, kinds, tables):
    """Tell whether all columns that a step names are there, and none that it makes."""
    if not all([column in kinds for column in named_columns(step)]):
        return False
    if any([column in kinds for column in news_of(step)]):
        return False
    if step[1] == "look":
        others = dict(tables[step[3]])
        return step[4] in others and step[5] in others
    return True


def is_kind_right(step, kinds, tables):
    """Tell whether all columns and worths of a step are of the kinds that it asks for."""
    word = step[1]
    if word in ("cut", "glue", "spell", "read"):
        return all([kinds[column] == "text" for column in named_columns(step)])
    if word in ("put", "within"):
        return all([kind_of(worth) == kinds[step[2]] for worth in step[3:]])
    if word == "among":
        return all([kind_of(worth) == kinds[step[2]] for worth in step[3]])
    if word == "before":
        return kinds[step[2]] == kinds[step[3]]
    if word == "look":
        return kinds[step[2]] == dict(tables[step[3]])[step[4]]
    return True


def behinds_fault(behinds, names):
    """Tell why a tuple of what must be behind what is at fault, "" where it is not."""
    if not all([is_pair_of_names(pair) for pair in behinds]) or not is_rising(behinds):
        return "form"
    for step, other in behinds:
        if step not in names or other not in names or names.index(other) <= names.index(step):
            return "name"
    return ""
