"""Benches: sources are told otherwise, and just what must be is made anew."""

from cleanedtables.askers import is_thing
from cleanedtables.errors import NoDeed, NoThing
from cleanedtables.keeping import Keeper
from cleanedtables.plans import Plan
from cleanedtables.refusals import refuse_source, refuse_table
from cleanedtables.rules import whole_row
from cleanedtables.stocks import after_deed, first_stock, held_stock
from cleanedtables.touches import refuse_clashes


def source_part(source, text):
    """Tell how a source and its text are shown."""
    end = "" if text == "" or text.endswith("\n") else "\n"
    return f"= {source}\n{text}{end}"


class Bench:
    """A program's sources as deeds leave them, and the answers of things by them."""

    def __init__(self, program, texts):
        refuse_clashes(program)
        self.program = program
        self.stock = first_stock(program, texts)
        # The stocks ahead of the deeds that stand, and those that undo took back.
        self.past = []
        self.future = []
        self.keeper = Keeper(Plan(program))
        # How often the sources were told otherwise, and how often when last asked.
        self.turn = 0
        self.asked_turn = -1
        self.under_way = False
        self.done_by_now = 0
        self.notes = ()

    def put(self, source, number, column, worth):
        """Tell a cell of a row otherwise."""
        return self.do_alone(("put", source, number, column, worth))

    def add(self, source, worths):
        """Put a row behind all of a source: its number."""
        return self.do_alone(("add", source, worths))

    def drop(self, source, number):
        """Take a row away."""
        return self.do_alone(("drop", source, number))

    def text_of(self, source):
        """Tell the text of a source, of anything."""
        refuse_source(self.program, source)
        text, _, _ = self.stock[source]
        return text

    def answer(self, thing):
        """Tell the answer of a thing, of anything."""
        keeper = self.keeper_now()
        if not is_thing(keeper.plan, keeper.held, keeper.side, thing):
            raise NoThing(thing)
        return keeper.answer(thing)

    def rows_of(self, name):
        """Tell (row, worths, marks) of all rows of a table, of anything."""
        refuse_table(self.program, name)
        keeper = self.keeper_now()
        rows = []
        for row in keeper.answer(("rows", name)):
            worths, marks = keeper.answer(whole_row(keeper.plan, name, row))
            rows.append((row, worths, marks))
        return tuple(rows)

    def made(self):
        """Tell the things made since this was asked last."""
        return self.keeper.taken_made()

    def undo(self):
        """Take back the deed that was done last."""
        if len(self.past) == 0:
            raise NoDeed()
        self.future.append(self.stock)
        self.lay(self.past.pop())

    def redo(self):
        """Do again what undo took back last."""
        if len(self.future) == 0:
            raise NoDeed()
        self.past.append(self.stock)
        self.lay(self.future.pop())

    def together(self, deeds, *, look=None):
        """Do all deeds as one, or none: what they tell."""
        ahead = self.stock
        told = None
        self.under_way = True
        self.done_by_now = 0
        self.notes = self.notes + (("begun", len(deeds)),)
        try:
            told = self.do_all(deeds, look)
        finally:
            if told is None:
                self.stock = ahead
                self.turn += 1
            self.under_way = False
            self.notes = self.notes + (("ended", self.done_by_now),)
        self.stand_behind(ahead)
        return told

    def log(self):
        """Tell when each together was begun and ended, with how many deeds."""
        return tuple([f"{word} {many}" for word, many in self.notes])

    def is_open(self):
        """Tell whether deeds are being done together."""
        return self.under_way

    def held_now(self):
        """Tell the rows that are there, each by its number, as (worths, reason)."""
        return held_stock(self.program, self.stock)

    def do_alone(self, deed):
        """Do a deed by itself: what it tells."""
        ahead = self.stock
        stock, told = after_deed(self.program, ahead, deed)
        self.lay(stock)
        self.stand_behind(ahead)
        return told

    def do_all(self, deeds, look):
        """Do deeds in order, look asked behind each: the tuple of what they tell."""
        told = []
        for deed in deeds:
            stock, number = after_deed(self.program, self.stock, deed)
            self.lay(stock)
            told.append(number)
            self.done_by_now = len(told)
            if look is not None:
                look(len(told))
        return tuple(told)

    def lay(self, stock):
        """Go on with another stock."""
        self.stock = stock
        self.turn += 1

    def stand_behind(self, ahead):
        """Note that a deed stands that was done behind a stock: what was taken back is over."""
        self.past.append(ahead)
        self.future = []

    def keeper_now(self):
        """Tell the keeper of things by the rows that are there."""
        if self.asked_turn != self.turn:
            self.keeper.turn_to(self.held_now())
            self.asked_turn = self.turn
        return self.keeper

    def __eq__(self, other):
        if not isinstance(other, Bench):
            return False
        return self.program == other.program and self.stock == other.stock

    def __len__(self):
        return len([number for _, numbers, _ in list(self.stock.values()) for number in numbers])

    def __str__(self):
        return "".join([source_part(source, self.stock[source][0]) for source, _ in self.program[0]])
