"""Spans: all lots of texts of a told size, and whether two programs tell the same of each."""

from cleanedtables.cells import add_row
from cleanedtables.errors import NoOrder
from cleanedtables.needs import needed_program
from cleanedtables.picks import many_rows, rows_at
from cleanedtables.programs import columns_of
from cleanedtables.running import run
from cleanedtables.touches import refuse_clashes


def spread(program, spans):
    """Tell how many lots of texts there are."""
    many = 1
    for ways in ways_of(spans):
        many = many * sum(ways)
    return many


def texts_at(program, spans, which):
    """Tell the lot of texts of a number."""
    if not 0 <= which < spread(program, spans):
        raise NoOrder(which)
    ways = ways_of(spans)
    total, left = in_parts(many_by_total(ways), which)
    shapes = dict(program[0])
    told = []
    for place, (source, worths, _) in enumerate(spans):
        # How many lots there are behind each number of this source's rows.
        behind = [many_lots(ways[place + 1:], total - many) for many in range(len(ways[place]))]
        many, left = in_parts([own * other for own, other in zip(ways[place], behind)], left)
        own, left = divmod(left, behind[many])
        told.append((source, text_of_rows(shapes[source], rows_at(worths, many, own))))
        total -= many
    return tuple(sorted(told))


def alike(one, other, tables, spans):
    """Tell whether two programs tell the same of these tables at each lot of texts."""
    refuse_clashes(one)
    refuse_clashes(other)
    if [columns_of(one, name) for name in tables] != [columns_of(other, name) for name in tables]:
        return ("parted", texts_at(one, spans, 0))
    many = spread(one, spans)
    for which in range(many):
        texts = texts_at(one, spans, which)
        if standing_worths(one, tables, texts) != standing_worths(other, tables, texts):
            return ("parted", texts)
    return ("alike", many)


def ways_of(spans):
    """Tell for each span, for each number of rows from 0, how many texts of so many there are."""
    ways = []
    for _, worths, most in spans:
        own = [1]
        for _ in range(most):
            own.append(own[-1] * many_rows(worths))
        ways.append(own)
    return ways


def many_lots(ways, total):
    """Tell how many lots of texts of some sources have so many rows in all."""
    if len(ways) == 0:
        return 1 if total == 0 else 0
    return sum([own * many_lots(ways[1:], total - many) for many, own in enumerate(ways[0]) if many <= total])


def many_by_total(ways):
    """Tell for each number of rows in all, from 0, how many lots of texts there are."""
    most = sum([len(own) - 1 for own in ways])
    return [many_lots(ways, total) for total in range(most + 1)]


def in_parts(parts, which):
    """Tell in which of parts of so many a number is, and which of that one's it is."""
    left = which
    place = 0
    while left >= parts[place]:
        left -= parts[place]
        place += 1
    return place, left


def text_of_rows(shape, rows):
    """Tell the text to which rows of worths are put."""
    text = ""
    for worths in rows:
        text = add_row(shape, text, worths)
    return text


def standing_worths(program, tables, texts):
    """Tell for each of these tables the worths of the rows that stand, in order."""
    standing = {}
    for name, rows, _ in run(needed_program(program, tables), texts):
        standing[name] = [worths for _, worths, marks in rows if len(marks) == 0]
    return [standing[name] for name in tables]
