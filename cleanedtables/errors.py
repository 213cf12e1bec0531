"""The refusals: three families, none under another, and what stands straight under them."""


class NotSuch(ValueError):
    """What was handed in is not such as is asked for."""


class NoFit(NotSuch):
    """A worth that has no room in its cell."""

    def __init__(self, worth):
        self.worth = worth


class NoText(NotSuch):
    """No text of a program; row is the number of the row at fault."""

    def __init__(self, row):
        self.row = row


class NoLine(NotSuch):
    """No line that a desk understands."""

    def __init__(self, line):
        self.line = line


class Lost(LookupError):
    """What was asked for is not there."""


class NoRow(Lost):
    """A row that is not there."""

    def __init__(self, row):
        self.row = row


class NoCell(Lost):
    """A cell that is not there in the row of this number."""

    def __init__(self, number, column):
        self.number = number
        self.column = column


class NoOrder(Lost):
    """A number that no order has."""

    def __init__(self, which):
        self.which = which


class NoThing(Lost):
    """What is no thing to ask for."""

    def __init__(self, thing):
        self.thing = thing


class NoSource(Lost):
    """A source that is not there."""

    def __init__(self, source):
        self.source = source


class NoTable(Lost):
    """A table that is not there."""

    def __init__(self, table):
        self.table = table


class NoDeed(Lost):
    """No deed is left to take back or to do again."""


class Shut(RuntimeError):
    """A program that is not run as it stands."""


class Clash(Shut):
    """Two steps of a table that clash over what both touch."""

    def __init__(self, table, step, other, what):
        self.table = table
        self.step = step
        self.other = other
        self.what = what
