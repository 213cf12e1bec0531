"""Askers: they answer things one after the other, each once."""

from cleanedtables.rules import rule_of
from cleanedtables.sames import is_one_same
from cleanedtables.worths import is_whole, is_worth


class Asker:
    """Answers things of a plan and the rows held, and keeps what each asked for."""

    def __init__(self, plan, held):
        self.plan = plan
        self.held = held
        # Things in the order in which they were answered.
        self.answers = {}
        self.asked = {}

    def answer(self, thing):
        """Tell the answer of a thing."""
        return self.answer_to(thing, [])

    def answer_to(self, thing, asked):
        """Tell the answer of a thing to one that notes what it asked for."""
        asked.append(thing)
        if thing not in self.answers:
            own = []
            rule = rule_of(thing)
            self.answers[thing] = rule(self.plan, self.held, thing, lambda other: self.answer_to(other, own))
            self.asked[thing] = own
        return self.answers[thing]


def is_thing(plan, held, side, thing):
    """Tell whether something, of any kind, is a thing; side is an asker of whom nobody is told."""
    if not isinstance(thing, tuple) or len(thing) < 2:
        return False
    if not isinstance(thing[0], str) or not isinstance(thing[1], str):
        return False
    if thing[0] == "source":
        return len(thing) == 2 and thing[1] in plan.shapes
    if thing[0] == "line":
        return len(thing) == 3 and thing[1] in held and is_whole(thing[2]) and thing[2] in held[thing[1]]
    return thing[1] in plan.tables and is_thing_of_table(plan, side, thing)


def is_thing_of_table(plan, side, thing):
    """Tell whether what begins with two texts, the second a table, is a thing of this table."""
    word, name = thing[0], thing[1]
    if word == "rows":
        return len(thing) == 2
    if word == "row":
        return len(thing) == 4 and is_place(plan, name, thing[2]) and is_row(side, name, thing[3])
    if word == "above":
        return len(thing) == 3 and is_row(side, name, thing[2])
    if word == "keyed":
        return len(thing) == 4 and is_column(plan, name, thing[2]) and is_worth(thing[3])
    is_parted = plan.tables[name][1][0] in ("group", "wide")
    return word == "parts" and len(thing) == 3 and is_parted and is_row(side, name, thing[2])


def is_place(plan, name, thing):
    """Tell whether something, of any kind, is how many of a table's steps are done."""
    return is_whole(thing) and 0 <= thing <= plan.steps_of(name)


def is_row(side, name, thing):
    """Tell whether something, of any kind, is what a row of a table is called."""
    return is_one_same(side.answer(("rows", name)), thing)


def is_column(plan, name, thing):
    """Tell whether something, of any kind, is a column of a table behind all steps."""
    return isinstance(thing, str) and thing in plan.columns[name][-1]
