"""Needs: which tables are made of which, and what of a program must be made for some of them."""

from cleanedtables.originfaults import made_of


def made_from(program, name):
    """Tell a table and all that it is made of, and so on, as a dict of True."""
    wanted = {name: True}
    # Tables name such as stand ahead of them alone.
    for table in reversed(program[1]):
        if table[0] in wanted:
            for one in made_of(table[1]):
                wanted[one] = True
    return wanted


def needed_program(program, names):
    """Tell the program with those of its tables alone that must be made for these."""
    wanted = {name: True for name in names}
    kept = []
    for table in reversed(program[1]):
        if table[0] in wanted:
            kept.append(table)
            for one in made_of(table[1]) + looked_at(table):
                wanted[one] = True
    return (program[0], tuple(reversed(kept)))


def looked_at(table):
    """Tell the tables in which the steps of a table look."""
    return [step[3] for step in table[2] if step[1] == "look"]
