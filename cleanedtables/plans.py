"""Plans: a program's parts by their NAMEs, for those who go through it."""

from cleanedtables.columns import news_of
from cleanedtables.programs import all_columns


class Plan:
    """A program by its NAMEs: shapes of sources, tables, and the columns of these."""

    def __init__(self, program):
        self.shapes = dict(program[0])
        self.tables = {table[0]: table for table in program[1]}
        self.columns = {}
        for name, columns in all_columns(program).items():
            self.columns[name] = columns_by_steps(self.tables[name], columns)

    def steps_of(self, name):
        """Tell how many steps a table has."""
        return len(self.tables[name][2])


def columns_by_steps(table, columns):
    """Tell a table's columns behind none of its steps, behind the first one, and so on."""
    names = [column for column, _ in columns]
    told = [names]
    for step in reversed(table[2]):
        names = names[:len(names) - len(news_of(step))]
        told.append(names)
    return list(reversed(told))
