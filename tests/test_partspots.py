"""[10], [77]: the spots of parts that are asked for in the looks at a spot."""

from itertools import product

from chooseonce.cutting import cuts_of, many_cuts
from chooseonce.partspots import PartSpots
from chooseonce.shapes import Shape
from chooseonce.spots import part_spots, spots_of
from tests.helping import EDGE, FOLD, TWIN, Case
from tests.runreckoning import Reckoned, small_lengths
from tests.shapedrawing import ringless
from tests.test_prices import DOUBLE, THREE, shape_of

# A row of 80 signs has far more cuts by its way f than could be listed.
WIDE = """signs ab
rows 1
start s
lot s
way f(run 0 any, run 0 any, t, run 0 any, t)
lot t
way g(run 1 3)"""


class Asked(Case):
    def test_ordinary(self):
        fold = PartSpots(shape_of(FOLD))
        self.same(sorted(fold.asked_by(("fold", ((4, 7),)))), [
            ("fold", ((5, 5),)), ("fold", ((5, 6),)), ("fold", ((5, 7),)), ("fold", ((6, 7),)), ("fold", ((7, 7),))])
        self.same(fold.asked_by(("fold", ((3, 3),))), [])
        self.same(fold.asked_by(("fold", ((3, 4),))), [("fold", ((4, 4),))])
        # Alike widths elsewhere, and the same spot again.
        self.same(fold.asked_by(("fold", ((0, 1),))), [("fold", ((1, 1),))])
        self.same(fold.asked_by(("fold", ((3, 4),))), [("fold", ((4, 4),))])

    def test_ways_that_are_not_live(self):
        edge = PartSpots(shape_of(EDGE))
        self.same(edge.asked_by(("core", ((0, 2),))), [])
        self.same(sorted(edge.asked_by(("whole", ((0, 3),)))), [
            ("core", ((1, 3),)), ("core", ((2, 3),)), ("edge", ((0, 1),)), ("edge", ((0, 2),))])

    def test_two_parts_with_one_spot(self):
        double = PartSpots(shape_of(DOUBLE))
        self.same(double.asked_by(("s", ((2, 2),))), [("t", ((2, 2),))])

    def test_parts_that_are_not_empty(self):
        # A pair has no width on one of the rows at most.
        twin = PartSpots(shape_of(TWIN))
        self.same(sorted(twin.asked_by(("all", ((0, 0), (2, 3))))), [
            ("all", ((0, 0), (3, 3))), ("pair", ((0, 0), (2, 3))), ("rest", ((0, 0), (2, 3)))])
        for text in (TWIN, THREE):
            shape = shape_of(text)
            for lengths in product(range(4), repeat=2):
                self.as_by_cuts(shape, lengths)
            self.as_reckoned(shape, (2, 2))

    def test_more_cuts_than_could_be_listed(self):
        wide = shape_of(WIDE)
        boxes = ((0, None), (0, None), (1, 3), (0, None), (1, 3))
        self.assertGreater(many_cuts(boxes, 80), 25000)
        asked = PartSpots(wide).asked_by(("s", ((0, 80),)))
        wanted = [("t", ((start, start + width),)) for width in (1, 2, 3) for start in range(81 - width)]
        self.same(sorted(asked), sorted(wanted))

    def test_drawn_programs(self):
        for _, book in ringless(range(150)):
            shape = Shape(book)
            for lengths in small_lengths(book.rows):
                self.as_by_cuts(shape, lengths)
            self.as_reckoned(shape, small_lengths(book.rows)[-1])

    def as_by_cuts(self, shape, lengths):
        parts = PartSpots(shape)
        for spot in spots_of(shape, lengths):
            found = [part for way in shape.live(spot[0]) for cut in cuts_of(shape, spot[0], way, spot[1])
                     for part in part_spots(shape, spot, way, cut)]
            self.same(sorted(parts.asked_by(spot)), sorted(set(found)))

    def as_reckoned(self, shape, lengths):
        parts = PartSpots(shape)
        reckoned = Reckoned(shape.book.program, lengths)
        for spot in reckoned.spots():
            found = {part for _, _, asked in reckoned.looks(spot) for part in asked}
            self.same(sorted(parts.asked_by(spot)), sorted(found))
