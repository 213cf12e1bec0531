"""Keeping: what things told is kept, and made anew only where what they asked for is otherwise."""

from cleanedtables.askers import Asker
from cleanedtables.rules import rule_of

# Things that ask for nothing: told by the sources, never made.
TOLD_BY_SOURCES = ("source", "line")


class Keeper:
    """Keeps of each thing its answer and what it asked for, with the answers that it got."""

    def __init__(self, plan):
        self.plan = plan
        self.held = {}
        # An asker of whom nobody is told, for what is looked at by the side.
        self.side = None
        self.kept = {}
        # The things that were made, or stayed, since the sources were told otherwise.
        self.sure = {}
        self.made_lately = []

    def turn_to(self, held):
        """Go on with the rows held now."""
        self.held = held
        self.side = Asker(self.plan, held)
        self.sure = {}

    def answer(self, thing):
        """Tell the answer of a thing."""
        return self.answer_to(thing, [])

    def answer_to(self, thing, noted):
        """Tell the answer of a thing to one that notes what it asked for and what it got."""
        if thing[0] in TOLD_BY_SOURCES:
            rule = rule_of(thing)
            told = rule(self.plan, self.held, thing, None)
        else:
            if thing not in self.sure:
                if not self.stays(thing):
                    own = []
                    rule = rule_of(thing)
                    told = rule(self.plan, self.held, thing, lambda other: self.answer_to(other, own))
                    self.kept[thing] = (told, own)
                    self.made_lately.append(thing)
                self.sure[thing] = True
            told, _ = self.kept[thing]
        noted.append((thing, told))
        return told

    def stays(self, thing):
        """Tell whether a thing is kept, and all that it asked for tells what it got."""
        if thing not in self.kept:
            return False
        _, asked = self.kept[thing]
        for other, got in asked:
            if self.answer_to(other, []) != got:
                return False
        return True

    def taken_made(self):
        """Tell the things made since this was asked last, in the order of their answers."""
        made = tuple(self.made_lately)
        self.made_lately = []
        return made
