"""Row forms: which words stand in the rows of a program's text, and in which order.

A form is a tuple of sides, a colon between; a side is (sorts, sorts repeated any number of
times). What stands in a row is told as parts: what is fixed on a side one by one, what is
repeated as one tuple, of tuples where several sorts are repeated together.
"""

from cleanedtables.words import is_of_sort, thing_of, written_word

BETWEEN_SIDES = ":"

SOURCE_FORMS = {
    "signs": ((("text", "text"), ("name",)),),
    "places": (((), ("name", "number")),),
    "named": ((("text",), ("name",)),),
}
TABLE_FORMS = {
    "of": ((("name",), ()),),
    "join": ((("name", "name"), ("name", "name")),),
    "group": ((("name",), ("name",)), ((), ("name", "name", "name or none"))),
    "wide": ((("name",), ("name",)), (("name", "name"), ("text", "name"))),
    "long": ((("name",), ("name",)), (("name", "name"), ())),
}
STEP_FORMS = {
    "cut": ((("name", "text"), ("name",)),),
    "glue": (((), ("name",)), (("text", "name"), ())),
    "spell": ((("name",), ("text", "worth")),),
    "put": ((("name", "worth"), ()),),
    "given": ((("name",), ()),),
    "within": ((("name", "worth", "worth"), ()),),
    "among": ((("name",), ("worth",)),),
    "before": ((("name", "name"), ()),),
    "unlike": (((), ("name",)),),
    "fill": ((("name",), ("name",)),),
    "look": ((("name", "name", "name", "name", "name"), ()),),
}
# Of read, by the first word of its form, which stands behind the column.
READ_FORMS = {
    "whole": ((("name", "name", "name"), ()),),
    "amount": ((("name", "name", "number", "name"), ()),),
    "day": ((("name", "name", "name", "name"), ()),),
}
THEN_FORM = ((("name", "name"), ()),)


def source_form(word):
    """Tell the form of what stands behind the word of a shape, None of no such word."""
    return SOURCE_FORMS.get(word)


def table_form(word):
    """Tell the form of what stands behind the word of an origin, None of no such word."""
    return TABLE_FORMS.get(word)


def step_form(word, second):
    """Tell the form of what stands behind the word of a step, None of no such word.

    second is what stands second behind it: of read the first word of its form.
    """
    if word == "read":
        return READ_FORMS.get(second)
    return STEP_FORMS.get(word)


def read_by(form, words):
    """Tell the parts that words are by a form, None where they are none, or there is no form."""
    if form is None:
        return None
    sides = sides_of(words, len(form))
    if len(sides) != len(form):
        return None
    parts = []
    for (fixed, repeated), told in zip(form, sides):
        if not is_side(fixed, repeated, told):
            return None
        things = [thing_of(word) for word in told]
        parts.extend(things[:len(fixed)])
        if len(repeated) > 0:
            parts.append(groups_of(things[len(fixed):], len(repeated)))
    return parts


def sides_of(words, many):
    """Tell the words of each side, of one alone or of two."""
    if many == 1 or BETWEEN_SIDES not in words:
        return [words]
    place = words.index(BETWEEN_SIDES)
    return [words[:place], words[place + 1:]]


def is_side(fixed, repeated, words):
    """Tell whether words are such as a side of a form asks for."""
    sorts = list(fixed)
    while len(repeated) > 0 and len(sorts) < len(words):
        sorts.extend(repeated)
    if len(sorts) != len(words):
        return False
    return all([is_of_sort(word, sort) for word, sort in zip(words, sorts)])


def groups_of(things, many):
    """Tell things as tuples of so many, one by one where there is one in each."""
    if many == 1:
        return tuple(things)
    return tuple([tuple(things[at:at + many]) for at in range(0, len(things), many)])


def written_by(form, parts):
    """Tell the words of parts by a form."""
    words = []
    left = list(parts)
    for place, (fixed, repeated) in enumerate(form):
        if place > 0:
            words.append(BETWEEN_SIDES)
        for sort in fixed:
            words.append(written_word(left.pop(0), sort))
        if len(repeated) > 0:
            groups = left.pop(0)
            for group in groups:
                things = group if len(repeated) > 1 else (group,)
                words.extend([written_word(thing, sort) for thing, sort in zip(things, repeated)])
    return words
