"""Asking: the answers of things, and the lines that are looked at for them."""

from cleanedtables.askers import Asker, is_thing
from cleanedtables.errors import NoThing
from cleanedtables.held import held_rows
from cleanedtables.plans import Plan
from cleanedtables.touches import refuse_clashes


def answer(program, texts, thing):
    """Tell the answer of a thing, of any kind."""
    asker = asker_of_things(program, texts, (thing,))
    return asker.answer(thing)


def looked(program, texts, things):
    """Tell the (SOURCE, number) of all lines asked for on the way to things, rising."""
    asker = asker_of_things(program, texts, things)
    for thing in things:
        asker.answer(thing)
    return tuple(sorted([(thing[1], thing[2]) for thing in asker.answers if thing[0] == "line"]))


def asker_of_things(program, texts, things):
    """Tell an asker that was asked nothing yet; refused are clashes and the first that is no thing."""
    refuse_clashes(program)
    if not isinstance(things, tuple):
        raise NoThing(things)
    plan = Plan(program)
    held = held_rows(program, texts)
    side = Asker(plan, held)
    for thing in things:
        if not is_thing(plan, held, side, thing):
            raise NoThing(thing)
    return Asker(plan, held)
