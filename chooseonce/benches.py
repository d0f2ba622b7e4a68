"""The bench: rows that are edited, and asks that are answered over and over."""

from chooseonce.books import Book
from chooseonce.carrying import carried
from chooseonce.edits import edited, undoing
from chooseonce.mending import last_step, mended
from chooseonce.numbers import Numbers
from chooseonce.planning import all_kept, check_price, price_left
from chooseonce.plans import check_plan
from chooseonce.rowlooks import checked_rows
from chooseonce.shapes import Shape
from chooseonce.spots import spots_of
from chooseonce.working import Run


class AskState:
    """What a bench keeps for one ask: its plan, the entries of kept spots, the last answer's counts."""

    def __init__(self, ask, plan):
        self.ask = ask
        self.plan = plan
        self.entries = {}
        self.worked_out = 0
        self.looks = 0


class Bench:
    """Rows, and for each ask of a program a plan and the entries, by the mended ask, of kept spots."""

    def __init__(self, program):
        book = Book(program)
        self._shape = Shape(book)
        self._rows = ("",) * book.rows
        self._states = {}
        for name in book.asks():
            self._states[name] = AskState(mended(book, book.ask(name)), all_kept(self._shape))
        self._undoings = []

    def lay(self, rows):
        """Replaces the rows; all kept spots become blank."""
        checked_rows(self._shape.book, rows)
        self._rows = rows
        self._undoings = []
        for name in self._states:
            state = self._states[name]
            state.entries = {}

    def edit(self, edit):
        """Edits the rows; carried spots keep their entries."""
        back = self._do_edit(edit)
        self._undoings.append(back)

    def undo(self):
        """Takes back the last edit that is not taken back; False if there is none."""
        if not self._undoings:
            return False
        self._do_edit(self._undoings[-1])
        self._undoings.pop()
        return True

    def rows_now(self):
        """The rows."""
        return self._rows

    def plan_by(self, name, plan):
        """Sets the plan of an ask, whose kept spots all become blank."""
        state = self._state(name)
        check_plan(self._shape, plan)
        state.plan = plan
        state.entries = {}

    def answer(self, name):
        """Once, by the ask with this name; no kept spot stays blank."""
        state = self._state(name)
        lengths = self._lengths()
        check_price(self._shape, lengths, state.plan)
        run = Run(self._shape, state.ask, self._rows, state.plan, list(state.entries.items()))
        run.keep([spot for spot in spots_of(self._shape, lengths) if spot[0] in state.plan])
        whole = run.whole(lengths)
        state.worked_out = len(run.entries) - len(state.entries)
        state.looks = run.looks
        state.entries = run.entries
        book = self._shape.book
        return last_step(book, book.ask(name), whole)

    def due(self, name):
        """How many looks the ask's answer would take now."""
        state = self._state(name)
        return price_left(self._shape, self._lengths(), state.plan, list(state.entries))

    def made(self, name):
        """How many kept spots the last answer worked out; 0 ahead of the first."""
        return self._state(name).worked_out

    def looked(self, name):
        """How many looks the last answer took; 0 ahead of the first."""
        return self._state(name).looks

    def many(self):
        """How many candidates the rows have."""
        return Numbers(self._shape, self._rows).many()

    def nth(self, number):
        """The candidate of the rows with this number."""
        return Numbers(self._shape, self._rows).nth(number)

    def _state(self, name):
        # The book knows which names there are, and raises NoName for all others.
        self._shape.book.ask(name)
        return self._states[name]

    def _lengths(self):
        return checked_rows(self._shape.book, self._rows)

    def _do_edit(self, edit):
        """Edits rows and entries; returns the edit that takes it back."""
        rows = edited(self._shape.book, self._rows, edit)
        back = undoing(self._rows, edit)
        for name in self._states:
            state = self._states[name]
            table = tuple(list(state.entries.items()))
            kept = carried(self._shape, self._rows, edit, table)
            state.entries = {spot: entry for spot, entry in kept}
        self._rows = rows
        return back
