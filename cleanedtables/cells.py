"""Cells: a source's text with one cell told otherwise, or with a row more."""

from cleanedtables.errors import NoCell, NoFit, NoRow
from cleanedtables.lines import lines_of, standing_cells
from cleanedtables.worths import is_whole


def put_cell(shape, text, number, column, worth):
    """Tell the text in which a cell of the row of this number tells a worth."""
    lines = lines_of(shape, text)
    if not is_whole(number) or not 0 <= number < len(lines):
        raise NoRow(number)
    return put_in_line(shape, text, lines[number], (number, column), worth)


def put_in_line(shape, text, line, cell, worth):
    """Tell the text in which a cell, (number, column), of a line of it tells a worth."""
    number, column = cell
    begin, end, cells, reason = line
    if reason != "" or not has_cell(shape, text[begin:end], column):
        raise NoCell(number, column)
    place = shape[-1].index(column)
    first, last, _ = cells[place]
    missing = 0
    if shape[0] == "places":
        missing = begin + sum(shape[1][:place]) - first
    return text[:first] + " " * missing + cell_signs(shape, place, worth) + text[last:]


def has_cell(shape, row, column):
    """Tell whether a row that is not odd has a cell of a column, of anything."""
    if not isinstance(column, str) or column not in shape[-1]:
        return False
    if shape[0] != "named":
        return True
    # A cell without signs at the row's end and one that lacks are told alike by
    # lines_of, so the row itself is asked.
    standing, _ = standing_cells(shape, row)
    return column in standing


def cell_signs(shape, place, worth):
    """Tell the signs by which the cell of the column at a place tells a worth."""
    signs = "" if worth is None else worth
    if shape[0] == "signs":
        return quoted_signs(shape, signs)
    if shape[0] == "places":
        width = shape[1][place]
        if len(signs) > width:
            raise NoFit(worth)
        return signs.ljust(width)
    if shape[1] in signs:
        raise NoFit(worth)
    return signs


def quoted_signs(shape, signs):
    """Tell a cell's signs in a row of "signs", between quotes where it must be."""
    _, sign, quote, columns = shape
    # Of one column alone a cell of no signs could leave no row at the text's end.
    alone = signs == "" and len(columns) == 1
    if alone or sign in signs or quote in signs:
        return quote + signs.replace(quote, quote + quote) + quote
    return signs


def add_row(shape, text, worths):
    """Tell the text with a row of these worths behind all."""
    ahead = ""
    if text != "" and not text.endswith("\n"):
        ahead = "\n"
    return text + ahead + row_signs(shape, worths) + "\n"


def row_signs(shape, worths):
    """Tell the signs of a row of these worths, one for each column."""
    signs = [cell_signs(shape, place, worth) for place, worth in enumerate(worths)]
    if shape[0] == "signs":
        return shape[1].join(signs)
    if shape[0] == "places":
        return "".join(signs)
    told = []
    for column, worth, cell in zip(shape[2], worths, signs):
        if worth is not None:
            told.append(f"{column}={cell}")
    return shape[1].join(told)
