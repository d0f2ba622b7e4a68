"""The shape of a program without a ring."""

from chooseonce.boxes import piece_box
from chooseonce.chains import ranks_in
from chooseonce.leastwidths import empty_makings
from chooseonce.living import Living
from chooseonce.margins import margins_in, widths_in


class Shape:
    """What is told of the useful lots and their live ways; Ring if there is a ring."""

    def __init__(self, book):
        living = Living(book)
        self._ranks = ranks_in(living)
        self.book = book
        self.useful = living.useful
        self._live = living.live_by_lot
        self._places = {lot: place for place, lot in enumerate(book.lots())}
        self._empty = list(empty_makings(living))
        self._widths = [widths_in(living, row) for row in range(book.rows)]
        self._margins = [margins_in(living, told, row) for row, told in enumerate(self._widths)]

    def __eq__(self, other):
        return isinstance(other, Shape) and self.book == other.book

    def live(self, lot):
        """The places of the live ways of the lot."""
        return self._live[lot]

    def place(self, lot):
        """The place of the lot among all lots of the program."""
        return self._places[lot]

    def rank(self, lot):
        """The rank of the lot."""
        return self._ranks[lot]

    def is_empty(self, lot):
        """Whether the lot is empty."""
        return lot in self._empty

    def widths(self, lot, row):
        """The least and the greatest width of the lot on the row."""
        return self._widths[row][lot]

    def margin(self, lot, row):
        """The margins of the lot on the row."""
        return self._margins[row][lot]

    def box(self, piece, row):
        """The box on the row of a piece of a live way of a useful lot."""
        return piece_box(piece, row, self._widths[row])
