"""Steps: what each does to a row by this row's worths alone."""

from cleanedtables.forms import read_as
from cleanedtables.lines import cell_worth


def done(step, worths):
    """Tell what a step writes, a dict by columns, and whether it marks the row.

    It is of all steps but unlike, fill and look: these ask for other rows.
    """
    word = step[1]
    if word == "cut":
        return cut_done(step, worths[step[2]])
    if word == "glue":
        return ({step[4]: glued(step, worths)}, False)
    if word == "spell":
        return ({step[2]: spelled(step, worths[step[2]])}, False)
    if word == "read":
        return read_done(step, worths[step[2]])
    if word == "put":
        worth = worths[step[2]]
        return ({step[2]: step[3] if worth is None else worth}, False)
    return ({}, not is_met(step, worths))


def cut_done(step, text):
    """Tell what a cut writes of a text, and whether it marks."""
    _, _, _, sign, news = step
    if text is None:
        return ({new: None for new in news}, False)
    parts = text.split(sign)
    if len(parts) != len(news):
        return ({new: None for new in news}, True)
    return ({new: cell_worth(part) for new, part in zip(news, parts)}, False)


def glued(step, worths):
    """Tell the texts of a glue's columns, its sign between, None where none is."""
    texts = [worths[column] for column in step[2] if worths[column] is not None]
    return None if len(texts) == 0 else step[3].join(texts)


def spelled(step, text):
    """Tell how a spell spells a text, None as itself."""
    for one, other in step[3]:
        if one == text:
            return other
    return text


def read_done(step, text):
    """Tell what a read writes of a text, and whether it marks."""
    if text is None:
        return ({step[4]: None}, False)
    number = read_as(step[3], text)
    return ({step[4]: number}, number is None)


def is_met(step, worths):
    """Tell whether a row meets a wish."""
    worth = worths[step[2]]
    word = step[1]
    if word == "given":
        return worth is not None
    if worth is None:
        return True
    if word == "within":
        return step[3] <= worth <= step[4]
    if word == "among":
        return worth in step[3]
    other = worths[step[3]]
    return other is None or worth < other
