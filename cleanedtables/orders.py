"""Orders: in which ones the steps of a table may be done.

Steps are told by their places in the tuple of steps; which of them are done is a
whole number that has the bit of each such place.
"""

from cleanedtables.errors import NoOrder


def orders_of(program, table):
    """Tell how many orders of a table's steps keep what must be behind."""
    needs = needs_of(table_called(program, table))
    return ways_on(needs, 0, {})


def order_at(program, table, which):
    """Tell the order of this number, as the places of steps rise."""
    told = table_called(program, table)
    needs = needs_of(told)
    known = {}
    if not 0 <= which < ways_on(needs, 0, known):
        raise NoOrder(which)
    order = []
    done = 0
    left = which
    for _ in needs:
        place, left = next_place(needs, done, known, left)
        done = done | (1 << place)
        order.append(told[2][place][0])
    return tuple(order)


def table_called(program, name):
    """Tell the table of this NAME."""
    return [table for table in program[1] if table[0] == name][0]


def needs_of(table):
    """Tell for each step which ones must be done ahead of it."""
    names = [step[0] for step in table[2]]
    needs = [0] * len(names)
    for step, other in table[3]:
        place = names.index(other)
        needs[place] = needs[place] | (1 << names.index(step))
    return needs


def ready_places(needs, done):
    """Tell the places of the steps that may be done next."""
    places = []
    for place, need in enumerate(needs):
        if not done & (1 << place) and (need & done) == need:
            places.append(place)
    return places


def ways_on(needs, done, known):
    """Tell in how many orders the steps that are left may be done."""
    if done == (1 << len(needs)) - 1:
        return 1
    # Without what is known already this would go through each of the orders.
    if done not in known:
        onward = [done | (1 << place) for place in ready_places(needs, done)]
        known[done] = sum([ways_on(needs, more, known) for more in onward])
    return known[done]


def next_place(needs, done, known, left):
    """Tell the next step of the order of number left, and its number behind that step."""
    for place in ready_places(needs, done):
        ways = ways_on(needs, done | (1 << place), known)
        if left < ways:
            break
        left -= ways
    return place, left
