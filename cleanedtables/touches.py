"""Touches: what steps read and write, and which of them clash over it."""

from cleanedtables.columns import named_columns, news_of
from cleanedtables.errors import Clash
from cleanedtables.orders import needs_of

# What a step touches that hangs on which rows stand, or changes it.
MARKS = "!"
ASKS_MARKS = ("fill", "unlike")
FILLS_ITS_COLUMN = ("spell", "put", "fill")
MARKS_ROWS = ("cut", "read", "look", "given", "within", "among", "before", "unlike")


def touched(step):
    """Tell (reads, writes) of a step, each rising."""
    word = step[1]
    reads = named_columns(step)
    writes = news_of(step)
    if word in ASKS_MARKS:
        reads.append(MARKS)
    if word in FILLS_ITS_COLUMN:
        writes.append(step[2])
    if word in MARKS_ROWS:
        writes.append(MARKS)
    return (tuple(sorted(set(reads))), tuple(sorted(writes)))


def clashes(program):
    """Tell each (table, STEP, OTHER, what) of two steps that clash, rising."""
    found = []
    for table in program[1]:
        found.extend(clashes_of(table))
    return tuple(sorted(found))


def clashes_of(table):
    """Tell the clashes of one table."""
    steps = table[2]
    must = all_needs(table)
    found = []
    for place, other in enumerate(steps):
        for ahead in range(place):
            if must[place] & (1 << ahead):
                continue
            for what in clashing(touched(steps[ahead]), touched(other)):
                found.append((table[0], steps[ahead][0], other[0], what))
    return found


def all_needs(table):
    """Tell for each step which ones must be done ahead of it, through others, too."""
    must = []
    for needs in needs_of(table):
        # The steps that must be ahead stand ahead, so theirs are told by now.
        for place, need in enumerate(list(must)):
            if needs & (1 << place):
                needs = needs | need
        must.append(needs)
    return must


def clashing(touches, others):
    """Tell what two steps that touch so much may not touch in any order."""
    reads, writes = touches
    other_reads, other_writes = others
    found = []
    for what in sorted(set(writes + other_writes)):
        is_asked = what in reads or what in other_reads
        if what in writes and what in other_writes:
            # Both may mark rows, in any order, where neither asks for marks.
            if what != MARKS or is_asked:
                found.append(what)
        elif what in writes and what in other_reads:
            found.append(what)
        elif what in other_writes and what in reads:
            found.append(what)
    return found


def refuse_clashes(program):
    """Refuse a program whose steps clash with the first clash."""
    found = clashes(program)
    if len(found) > 0:
        table, step, other, what = found[0]
        raise Clash(table, step, other, what)
