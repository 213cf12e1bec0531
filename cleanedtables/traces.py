"""Traces: all things asked for on the way to one, and whether something is such a trace."""

from cleanedtables.askers import Asker, is_thing
from cleanedtables.asking import asker_of_things
from cleanedtables.held import held_rows
from cleanedtables.plans import Plan
from cleanedtables.rules import rule_of
from cleanedtables.sames import is_same
from cleanedtables.touches import clashes
from cleanedtables.worths import is_whole


class Unshown(Exception):
    """What is looked at is not the trace."""


def trace(program, texts, thing):
    """Tell (thing, numbers, answer) of all things asked for on the way to one, of any kind."""
    asker = asker_of_things(program, texts, (thing,))
    asker.answer(thing)
    places = {}
    rows = []
    for place, (told, found) in enumerate(asker.answers.items()):
        places[told] = place
        rows.append((told, tuple([places[other] for other in asker.asked[told]]), found))
    return tuple(rows)


def shows_trace(program, texts, thing, made):
    """Tell whether something, of any kind, is the trace of a thing."""
    if len(clashes(program)) > 0:
        return False
    plan = Plan(program)
    held = held_rows(program, texts)
    if not is_thing(plan, held, Asker(plan, held), thing):
        return False
    if not isinstance(made, tuple):
        return False
    holder = Holder(plan, held, made)
    try:
        holder.hold(thing, len(made) - 1)
    except Unshown:
        return False
    return True


class Holder:
    """Holds the rows of what may be a trace against the rules of their things."""

    def __init__(self, plan, held, made):
        self.plan = plan
        self.held = held
        self.shown = made
        # The places of the things that have been held, in the order of their answers.
        self.places = {}

    def hold(self, thing, place):
        """Tell the answer of a thing whose row stands at a place, of any kind; else all is unshown."""
        numbers, told = self.row_of(thing, place)
        used = []
        rule = rule_of(thing)
        answer = rule(self.plan, self.held, thing, lambda other: self.named(other, numbers, used))
        if len(used) != len(numbers) or not is_same(answer, told):
            raise Unshown()
        # Each thing is answered behind all that it asks for, and ahead of what is asked later.
        if place != len(self.places):
            raise Unshown()
        self.places[thing] = place
        return answer

    def row_of(self, thing, place):
        """Tell the numbers and the answer of a thing's row at a place, of any kind."""
        if not is_whole(place) or not 0 <= place < len(self.shown):
            raise Unshown()
        row = self.shown[place]
        if not isinstance(row, tuple) or len(row) != 3 or not isinstance(row[1], tuple):
            raise Unshown()
        if not is_same(thing, row[0]):
            raise Unshown()
        return row[1], row[2]

    def named(self, thing, numbers, used):
        """Tell the answer of the thing that a row names next."""
        if len(used) == len(numbers):
            raise Unshown()
        place = numbers[len(used)]
        used.append(place)
        if thing not in self.places:
            return self.hold(thing, place)
        if not is_same(self.places[thing], place):
            raise Unshown()
        return self.shown[place][2]
