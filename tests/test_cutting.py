"""[70], [71]: the cuts of a width, and of a stretch by a way."""

from itertools import product

from chooseonce.books import Book
from chooseonce.cutting import cuts_in, cuts_of, many_cuts
from chooseonce.programs import read
from chooseonce.shapes import Shape
from tests.helping import FOLD, TWIN, Case
from tests.listing import divided
from tests.shapedrawing import ringless


def lies_in(number, box):
    return box[0] <= number and (box[1] is None or number <= box[1])


class Cuts(Case):
    def test_boxes(self):
        self.same(cuts_in(((1, 1), (0, None), (0, 2)), 3), ((1, 0, 2), (1, 1, 1), (1, 2, 0)))
        for boxes in product(((0, 0), (1, 1), (0, 2), (1, 3), (2, None), (0, None)), repeat=3):
            for many in (1, 2, 3):
                for width in range(6):
                    wanted = tuple(cut for cut in divided(width, many)
                                   if all(lies_in(*pair) for pair in zip(cut, boxes)))
                    self.same(cuts_in(boxes[:many], width), wanted)
                    self.same(many_cuts(boxes[:many], width), len(wanted))

    def test_edges(self):
        self.same(many_cuts(((0, None),) * 4, 80), 91881)
        self.same(len(cuts_in(((0, None),) * 4, 20)), many_cuts(((0, None),) * 4, 20))
        self.same(cuts_in(((2, 2), (3, 3)), 5), ((2, 3),))
        self.same(cuts_in(((2, 2), (3, 3)), 6), ())
        self.same(cuts_in(((2, None), (3, 4)), 4), ())
        self.same(many_cuts(((2, None), (3, 4)), 4), 0)
        self.same(many_cuts(((0, 2), (0, 1)), 4), 0)
        self.same((many_cuts(((3, 9),), 2), many_cuts(((3, 9),), 9), many_cuts(((3, 9),), 10)), (0, 1, 0))
        # There are far more of them than could be listed.
        self.same(many_cuts(((0, 80), (0, None), (1, None), (0, None), (0, None)), 80), 1837620)

    def test_ways(self):
        shape = Shape(Book(read(FOLD)))
        self.same(cuts_of(shape, "fold", 2, ((4, 7),)), (((1, 0, 1, 1),), ((1, 1, 1, 0),)))
        self.same(cuts_of(shape, "fold", 0, ((4, 5),)), ())
        shape = Shape(Book(read(TWIN)))
        # A part that is not empty has some width on some row.
        self.same(cuts_of(shape, "all", 0, ((0, 1), (3, 4))), (
            ((0, 1), (1, 0)), ((1, 0), (0, 1)), ((1, 0), (1, 0))))
        self.same(cuts_of(shape, "all", 0, ((2, 2), (0, 0))), ())
        # The stretch may be that of no spot; its widths alone tell.
        self.same(cuts_of(shape, "all", 0, ((90, 91), (-3, -2))), cuts_of(shape, "all", 0, ((0, 1), (0, 1))))
        self.same(cuts_of(shape, "rest", 0, ((0, 3), (0, 0))), ())

    def test_drawn_ways(self):
        for _, book in ringless(range(60)):
            shape = Shape(book)
            for lot in shape.useful:
                for way in shape.live(lot):
                    pieces = book.ways(lot)[way][1]
                    for widths in product(range(4 if book.rows == 1 else 3), repeat=book.rows):
                        self.same(cuts_of(shape, lot, way, tuple((1, 1 + width) for width in widths)),
                                  tuple(cut for cut in self.all_cuts(pieces, widths)
                                        if self.is_cut(shape, pieces, cut)))

    def all_cuts(self, pieces, widths):
        return product(*[divided(width, len(pieces)) for width in widths])

    def is_cut(self, shape, pieces, cut):
        for at, piece in enumerate(pieces):
            widths = [row[at] for row in cut]
            if not all(lies_in(width, shape.box(piece, row)) for row, width in enumerate(widths)):
                return False
            if piece[0] == "lot" and not any(widths) and not shape.is_empty(piece[1]):
                return False
        return True
