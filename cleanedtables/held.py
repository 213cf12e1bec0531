"""What is held of sources: each row by its number, as (worths, reason)."""

from cleanedtables.lines import cell_worth, lines_of


def held_rows(program, texts):
    """Tell the rows of all sources: by the source a dict of (worths, reason) by numbers."""
    of_source = dict(texts)
    return {source: numbered_rows(shape, of_source[source]) for source, shape in program[0]}


def numbered_rows(shape, text):
    """Tell the rows of a text by their numbers."""
    rows = {}
    for number, line in enumerate(lines_of(shape, text)):
        _, _, cells, reason = line
        rows[number] = (tuple([cell_worth(cell) for _, _, cell in cells]), reason)
    return rows


def only_rows(held, only):
    """Tell of the rows held those that are among these (SOURCE, number)."""
    kept = {}
    for source, rows in held.items():
        kept[source] = {number: rows[number] for number in list(rows) if (source, number) in only}
    return kept
