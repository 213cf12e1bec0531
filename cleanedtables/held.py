"""What is held of sources: each row by its number, as (worths, reason)."""

from cleanedtables.lines import cell_worth, lines_of


def held_rows(program, texts):
    """Tell the rows of all sources: by the source a dict of (worths, reason) by numbers."""
    of_source = dict(texts)
    return {source: dict(enumerate(rows_held(shape, of_source[source]))) for source, shape in program[0]}


def rows_held(shape, text):
    """Tell (worths, reason) of each row of a text, in order."""
    rows = []
    for _, _, cells, reason in lines_of(shape, text):
        rows.append((tuple([cell_worth(told) for _, _, told in cells]), reason))
    return rows


def only_rows(held, only):
    """Tell of the rows held those that are among these (SOURCE, number)."""
    kept = {}
    for source, rows in held.items():
        kept[source] = {number: rows[number] for number in list(rows) if (source, number) in only}
    return kept
