"""By rows: programs that go through a source row by row, told alike on sources of any size."""

from cleanedtables.picks import all_rows
from cleanedtables.programs import columns_of
from cleanedtables.steps import done
from cleanedtables.touches import clashes
from cleanedtables.worths import is_worth, kind_of, rank


def goes_by_rows(program):
    """Tell whether a program goes row by row."""
    if len(program[1]) != 1:
        return False
    _, origin, steps, _ = program[1][0]
    if origin[0] != "of":
        return False
    return all([is_by_rows(step) for step in steps])


def is_by_rows(step):
    """Tell whether a step asks for no other row but the last one that gave a worth."""
    if step[1] == "fill":
        return len(step[3]) == 0
    return step[1] not in ("unlike", "look")


def onward(program, state, worths):
    """Tell what a row comes to, (worths, whether it stands), and the state behind it."""
    _, origin, steps, _ = program[1][0]
    row = dict(zip(dict(program[0])[origin[1]][-1], worths))
    gives = list(state)
    fills = 0
    stands = True
    for step in steps:
        if step[1] == "fill":
            worth = row[step[2]]
            if worth is None:
                row[step[2]] = gives[fills]
            elif stands:
                gives[fills] = worth
            fills += 1
        else:
            written, marks = done(step, row)
            row.update(written)
            stands = stands and not marks
    return ((tuple(list(row.values())), stands), tuple(gives))


def alike_by_rows(one, other, worths):
    """Tell the pairs of states to which rows lead two programs, or the rows that part them."""
    rows = all_rows(worths)
    first = first_pair(one, other)
    # The least of the shortest rows that lead to each pair.
    ways = {first: ()}
    waiting = [first]
    while len(waiting) > 0:
        later = []
        for pair in waiting:
            for row in rows:
                is_alike, following = both_onward(one, other, pair, row)
                if not is_alike:
                    return ("parted", ways[pair] + (row,))
                if following not in ways:
                    ways[following] = ways[pair] + (row,)
                    later.append(following)
        waiting = later
    return ("alike", tuple(sorted(list(ways), key=ranks_of)))


def shows_alike(one, other, worths, thing):
    """Tell whether a thing, of any kind, is pairs of states that show two programs alike."""
    if len(clashes(one)) > 0 or len(clashes(other)) > 0:
        return False
    if not are_pairs(fill_kinds(one), fill_kinds(other), thing):
        return False
    pairs = {pair: True for pair in thing}
    if first_pair(one, other) not in pairs:
        return False
    for pair in thing:
        for row in all_rows(worths):
            is_alike, following = both_onward(one, other, pair, row)
            if not is_alike or following not in pairs:
                return False
    return True


def first_pair(one, other):
    """Tell the pair of states ahead of all rows."""
    return (tuple([None for _ in fill_kinds(one)]), tuple([None for _ in fill_kinds(other)]))


def both_onward(one, other, pair, row):
    """Tell whether two programs tell the same of a row, and the pair of states behind it."""
    (worths, stands), state = onward(one, pair[0], row)
    (other_worths, other_stands), other_state = onward(other, pair[1], row)
    # Of a row that does not stand nothing else is told.
    is_alike = stands == other_stands and (not stands or worths == other_worths)
    return is_alike, (state, other_state)


def ranks_of(pair):
    """Tell what a pair of states is sorted by."""
    return [rank(worth) for worth in pair[0] + pair[1]]


def fill_kinds(program):
    """Tell the kind of each fill's column, in order."""
    name, _, steps, _ = program[1][0]
    kinds = dict(columns_of(program, name))
    return [kinds[step[2]] for step in steps if step[1] == "fill"]


def are_pairs(kinds, other_kinds, thing):
    """Tell whether a thing, of any kind, is a rising tuple of unlike pairs of states of fills of these kinds."""
    if not isinstance(thing, tuple):
        return False
    for pair in thing:
        if not isinstance(pair, tuple) or len(pair) != 2:
            return False
        if not is_state(kinds, pair[0]) or not is_state(other_kinds, pair[1]):
            return False
    ranks = [ranks_of(pair) for pair in thing]
    return all([ahead < behind for ahead, behind in zip(ranks, ranks[1:])])


def is_state(kinds, thing):
    """Tell whether a thing, of any kind, is a state of fills of these kinds."""
    if not isinstance(thing, tuple) or len(thing) != len(kinds):
        return False
    if not all([is_worth(worth) for worth in thing]):
        return False
    return all([worth is None or kind_of(worth) == kind for worth, kind in zip(thing, kinds)])
