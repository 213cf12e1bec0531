"""Lines: the rows of a source's text and their cells, each led back to its signs.

What stands in a row is told first by its places in that row, then by those in the text.
"""


def lines_of(shape, text):
    """Tell the rows of a text by a shape: each (begin, end, cells, reason)."""
    return tuple([line_of(shape, text, begin, end) for begin, end in spans_of(text)])


def cell_worth(text):
    """Tell the worth of a cell's text."""
    worth = text.strip(" ")
    return None if worth == "" else worth


def spans_of(text):
    """Tell where each row of a text begins and ends."""
    spans = []
    begin = 0
    while begin < len(text):
        end = text.find("\n", begin)
        if end < 0:
            end = len(text)
        spans.append((begin, end))
        begin = end + 1
    return spans


def line_of(shape, text, begin, end):
    """Tell the row that stands from begin to ahead of end."""
    cells, reason = cells_of(shape, text[begin:end])
    moved = [(begin + first, begin + last, told) for first, last, told in cells]
    return (begin, end, tuple(moved), reason)


def cells_of(shape, row):
    """Tell the cells of a row and "", or none and the first reason why it is odd."""
    if shape[0] == "signs":
        return signs_cells(shape, row)
    if shape[0] == "places":
        return places_cells(shape, row)
    return named_cells(shape, row)


def signs_cells(shape, row):
    """Tell the cells of a row of "signs", or why it is odd."""
    _, sign, quote, columns = shape
    cells = []
    at = 0
    while at <= len(row):
        cell = signs_cell(row, at, sign, quote)
        if cell is None:
            return [], "quote"
        cells.append(cell)
        at = cell[1] + 1
    if len(cells) < len(columns):
        return [], "few"
    if len(cells) > len(columns):
        return [], "many"
    return cells, ""


def signs_cell(row, at, sign, quote):
    """Tell the cell that begins at a place, None where its quotes are at fault."""
    if row.startswith(quote, at):
        return quoted_cell(row, at, sign, quote)
    end = row.find(sign, at)
    if end < 0:
        end = len(row)
    return (at, end, row[at:end])


def quoted_cell(row, at, sign, quote):
    """Tell the cell whose first sign is the quote, None where it has no right end."""
    last = closing_quote(row, at + 1, quote)
    if last < 0:
        return None
    end = last + 1
    if end < len(row) and not row.startswith(sign, end):
        return None
    return (at, end, row[at + 1:last].replace(quote + quote, quote))


def closing_quote(row, at, quote):
    """Tell where the next quote that is not doubled stands, below 0 where none does."""
    place = row.find(quote, at)
    while place >= 0 and row.startswith(quote, place + 1):
        place = row.find(quote, place + 2)
    return place


def places_cells(shape, row):
    """Tell the cells of a row of "places", or why it is odd."""
    if len(row) > sum(shape[1]):
        return [], "many"
    cells = []
    at = 0
    for width in shape[1]:
        # A short row's cells end with it, and those that it lacks begin there, too.
        begin, end = min(at, len(row)), min(at + width, len(row))
        cells.append((begin, end, row[begin:end]))
        at += width
    return cells, ""


def named_cells(shape, row):
    """Tell the cells of a row of "named", or why it is odd."""
    standing, reason = standing_cells(shape, row)
    if reason != "":
        return [], reason
    lacking = (len(row), len(row), "")
    return [standing.get(column, lacking) for column in shape[2]], ""


def standing_cells(shape, row):
    """Tell a dict of the columns that stand in a row of "named", or why it is odd."""
    _, sign, columns = shape
    if row == "":
        return {}, ""
    standing = {}
    begin = 0
    for cell in row.split(sign):
        name, equals, told = cell.partition("=")
        if equals == "":
            return {}, "form"
        if name not in columns:
            return {}, "name"
        if name in standing:
            return {}, "twice"
        end = begin + len(cell)
        standing[name] = (end - len(told), end, told)
        begin = end + 1
    return standing, ""
