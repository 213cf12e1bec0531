"""Picks: rows of worths, each column's worth one of those told for it, in their order."""


def many_rows(worths):
    """Tell how many unlike rows of worths there are."""
    many = 1
    for told in worths:
        many = many * len(told)
    return many


def rows_at(worths, many, which):
    """Tell so many rows of worths: of all such, row by row and worth by worth, the ones of a number."""
    rows = []
    left = which
    for _ in range(many):
        row = []
        for told in reversed(worths):
            left, place = divmod(left, len(told))
            row.append(told[place])
        rows.append(tuple(reversed(row)))
    return list(reversed(rows))


def all_rows(worths):
    """Tell all rows of worths, worth by worth as they stand."""
    return [rows_at(worths, 1, which)[0] for which in range(many_rows(worths))]
