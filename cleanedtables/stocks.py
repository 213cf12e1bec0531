"""Stocks: what a bench has of its sources, and what comes of a deed.

A stock tells of each source (text, numbers of the text's rows, how many numbers were given).
It is never changed: a deed tells another one.
"""

from cleanedtables.cells import add_row, put_in_line
from cleanedtables.errors import NoRow
from cleanedtables.held import rows_held
from cleanedtables.lines import lines_of
from cleanedtables.refusals import refuse_source
from cleanedtables.worths import is_whole


def first_stock(program, texts):
    """Tell the stock ahead of all deeds."""
    of_source = dict(texts)
    stock = {}
    for source, shape in program[0]:
        many = len(lines_of(shape, of_source[source]))
        stock[source] = (of_source[source], tuple(range(many)), many)
    return stock


def held_stock(program, stock):
    """Tell the rows of a stock, each by its number, as (worths, reason)."""
    held = {}
    for source, shape in program[0]:
        text, numbers, _ = stock[source]
        held[source] = dict(zip(numbers, rows_held(shape, text)))
    return held


def after_deed(program, stock, deed):
    """Tell the stock behind a deed, and what the deed tells."""
    word, source, *rest = deed
    refuse_source(program, source)
    shape = dict(program[0])[source]
    told = None
    if word == "put":
        number, column, worth = rest
        changed = after_put(shape, stock[source], (number, column), worth)
    elif word == "add":
        told = stock[source][2]
        changed = after_add(shape, stock[source], rest[0])
    else:
        changed = after_drop(shape, stock[source], rest[0])
    return ({**stock, source: changed}, told)


def after_put(shape, own, cell, worth):
    """Tell a source's stock behind a worth put in a cell, (number, column)."""
    text, numbers, given = own
    line = line_called(shape, own, cell[0])
    return (put_in_line(shape, text, line, cell, worth), numbers, given)


def after_add(shape, own, worths):
    """Tell a source's stock behind a row more."""
    text, numbers, given = own
    return (add_row(shape, text, worths), numbers + (given,), given + 1)


def after_drop(shape, own, number):
    """Tell a source's stock behind a row less."""
    text, numbers, given = own
    begin, end, _, _ = line_called(shape, own, number)
    left = tuple([other for other in numbers if other != number])
    # The line feed behind the row goes with it.
    return (text[:begin] + text[end + 1:], left, given)


def line_called(shape, own, number):
    """Tell the line of the row of this number, of anything."""
    text, numbers, _ = own
    if not is_whole(number) or number not in numbers:
        raise NoRow(number)
    return lines_of(shape, text)[numbers.index(number)]
