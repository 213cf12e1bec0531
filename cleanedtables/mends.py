"""Mends: the cheapest of told offers that leave no row marked, or the marks that none takes away."""

from cleanedtables.cells import put_cell
from cleanedtables.choices import choices_of, cost_of, least_hit
from cleanedtables.held import held_rows
from cleanedtables.needs import made_from, needed_program
from cleanedtables.plans import Plan
from cleanedtables.sames import is_same
from cleanedtables.tables import made_tables
from cleanedtables.touches import clashes, refuse_clashes


def mend(program, texts, table, offers):
    """Tell the first choice that mends a table, with its paper, or the marks by which it is stuck."""
    refuse_clashes(program)
    tried = []
    for choice in choices_of(offers):
        marks = marks_left(program, put_offers(program, texts, offers, choice), table)
        if len(marks) == 0:
            paper = tuple([(other, left[0]) for other, left in tried])
            return ("mended", choice, cost_of(offers, choice), paper)
        tried.append((choice, marks))
    return ("stuck", least_marks([marks for _, marks in tried]))


def shows_mend(program, texts, table, offers, thing):
    """Tell whether a thing, of any kind, is what mend tells."""
    if len(clashes(program)) > 0:
        return False
    return is_same(mend(program, texts, table, offers), thing)


def put_offers(program, texts, offers, choice):
    """Tell the texts with the offers of a choice put."""
    shapes = dict(program[0])
    told = dict(texts)
    for number in choice:
        (source, row), column, worth, _ = offers[number]
        told[source] = put_cell(shapes[source], told[source], row, column, worth)
    return tuple([(source, told[source]) for source, _ in texts])


def marks_left(program, texts, name):
    """Tell each (table, row, STEP) that there is of a table and all that it is made of, in order."""
    wanted = made_from(program, name)
    needed = needed_program(program, [name])
    marks = []
    for one, table in made_tables(Plan(needed), held_rows(needed, texts), None).items():
        if one in wanted:
            marks.extend([(one, row.called, step) for row in table.rows for step in sorted(row.marks)])
    return marks


def least_marks(tried):
    """Tell the least of the shortest tuples of marks of which all that was tried leaves one at least."""
    numbers = {}
    for marks in tried:
        for mark in marks:
            numbers.setdefault(mark, len(numbers))
    by_number = list(numbers)
    hit = least_hit([[numbers[left] for left in marks_of_one] for marks_of_one in tried])
    return tuple([by_number[number] for number in hit])
