"""[83]: the code of a program; (G9)."""

from chooseonce.codes import code_of
from chooseonce.events import events_of, idle_loops, turns_of
from chooseonce.shapes import Shape
from tests.helping import EDGE, FOLD, TWIN, Case
from tests.runreckoning import Reckoned
from tests.shapedrawing import drawn_books, ringless
from tests.shapereckoning import made, ranks
from tests.test_prices import DOUBLE, THREE, shape_of
from tests.test_spots import UNMADE

def events_due(reckoned):
    """All spots begun, in their order, and all their looks, in sequence, directly behind each."""
    due = []
    for spot in reckoned.spots():
        due.append(("new", spot))
        due.extend(("look", spot, way, cut) for way, cut, _ in reckoned.looks(spot))
    return tuple(due)


class Codes(Case):
    def looked(self, shape, lengths):
        code = code_of(shape)
        self.same(events_of(shape, lengths, code), events_due(Reckoned(shape.book.program, lengths)))
        self.same(idle_loops(lengths, code), 0)

    def test_one_row(self):
        for text in (FOLD, EDGE, DOUBLE):
            for length in range(7):
                self.looked(shape_of(text), (length,))

    def test_two_rows(self):
        for lengths in ((0, 0), (0, 1), (1, 0), (1, 1), (0, 3), (3, 0), (2, 1), (2, 3), (3, 3)):
            self.looked(shape_of(TWIN), lengths)

    def test_parts_that_are_not_empty(self):
        for lengths in ((0, 0), (0, 2), (1, 1), (2, 0), (3, 0), (0, 4), (2, 2), (1, 3), (3, 2)):
            self.looked(shape_of(THREE), lengths)

    def test_bounded_margins_and_widths(self):
        text = "signs ab\nrows 1\nstart s\nlot s\nway f(run 1 2, t, run 0 3, t)\nlot t\nway g(run 2 3, u)\n" \
               "lot u\nway h(sign)\nway e(none)"
        for length in range(13):
            self.looked(shape_of(text), (length,))

    def test_no_useful_lot(self):
        unmade = shape_of(UNMADE)
        self.same((events_of(unmade, (4,), code_of(unmade)), turns_of((4,), code_of(unmade))), ((), 0))
        for _, book in drawn_books(range(200)):
            if book.start not in made(book.program) and ranks(book.program) is not None:
                self.same(events_of(Shape(book), (2,) * book.rows, code_of(Shape(book))), ())

    def test_turns(self):
        # Few turns lead to no look.
        code = code_of(shape_of(FOLD))
        looks = sum((13 - width) * max(width, 1) for width in range(13))
        self.assertLess(turns_of((12,), code), 6 * looks)
        self.assertLess(turns_of((80,), code), 400000)

    def test_drawn_programs(self):
        for _, book in ringless(range(160)):
            for lengths in ([(0,), (1,), (4,)] if book.rows == 1 else [(0, 0), (0, 1), (2, 1), (2, 2)]):
                self.looked(Shape(book), lengths)
