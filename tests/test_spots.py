"""[72], [73]: which pairs are spots, all of them in their order, and those of parts."""

from itertools import product

from chooseonce.books import Book
from chooseonce.cutting import cuts_of
from chooseonce.listing import all_candidates
from chooseonce.programs import read
from chooseonce.shapes import Shape
from chooseonce.spots import is_spot, part_spots, spots_of, whole_spot
from chooseonce.stretches import whole_of
from chooseonce.trees import nodes_of
from tests.helping import EDGE, FOLD, TWIN, Case
from tests.runreckoning import Reckoned, small_lengths
from tests.shapedrawing import drawn_books, ringless
from tests.shapereckoning import made, ranks

UNMADE = "signs a\nrows 1\nstart s\nlot s\nway f(sign, s)\nlot t\nway e(sign)"


def shape_of(text):
    return Shape(Book(read(text)))


class Spots(Case):
    def test_ordinary(self):
        fold = shape_of(FOLD)
        self.same(spots_of(fold, (1,)), (("fold", ((0, 0),)), ("fold", ((1, 1),)), ("fold", ((0, 1),))))
        pair = shape_of("signs a\nrows 2\nstart s\nlot s\nway up(sign / none)\nway down(none / sign)")
        self.same(spots_of(pair, (0, 0)), ())
        self.same(spots_of(pair, (1, 1)), (("s", ((0, 1), (0, 1))),))
        self.same((whole_spot(pair, (0, 0)), whole_spot(pair, (1, 1))), (None, ("s", ((0, 1), (0, 1)))))
        self.same(part_spots(fold, ("fold", ((4, 7),)), 2, ((1, 0, 1, 1),)),
                  (("fold", ((5, 5),)), ("fold", ((6, 7),))))
        self.same(part_spots(fold, ("fold", ((2, 2),)), 0, ((0,),)), ())

    def test_no_spots(self):
        edge = shape_of(EDGE)
        self.assertIs(is_spot(edge, (3,), ("core", ((0, 1),))), False)
        self.assertIs(is_spot(edge, (3,), ("core", ((2, 3),))), True)
        self.assertIs(is_spot(edge, (3,), ("core", ((0, 3),))), False)
        # Beyond the lengths, of lots that are not useful, on rows that are too short.
        for spot in (("edge", ((0, 4),)), ("edge", ((-1, 1),)), ("edge", ((3, 4),)), ("edge", ((2, 1),)),
                     ("lost", ((0, 1),)), ("spare", ((0, 1),))):
            self.assertIs(is_spot(edge, (3,), spot), False)
        self.assertIs(is_spot(edge, (1,), ("edge", ((0, 1),))), False)
        self.assertIs(is_spot(edge, (0,), ("whole", ((0, 0),))), False)
        self.same((whole_spot(edge, (0,)), spots_of(edge, (0,))), (None, ()))
        unmade = shape_of(UNMADE)
        self.same((spots_of(unmade, (2,)), whole_spot(unmade, (2,))), ((), None))
        self.assertIs(is_spot(unmade, (2,), ("t", ((0, 1),))), False)
        self.assertIs(is_spot(unmade, (2,), ("s", ((0, 2),))), False)

    def test_a_lot_of_least_width_0_that_is_not_empty(self):
        twin = shape_of(TWIN)
        self.assertIs(is_spot(twin, (2, 2), ("pair", ((1, 1), (0, 0)))), False)
        for stretch in (((1, 1), (0, 1)), ((0, 1), (1, 1)), ((0, 1), (0, 1))):
            self.assertIs(is_spot(twin, (2, 2), ("pair", stretch)), True)

    def test_order(self):
        # All widths added, then the rank: rest stands ahead of all, though behind it in the program.
        self.same(spots_of(shape_of(TWIN), (1, 1)), (
            ("rest", ((1, 1), (1, 1))), ("all", ((1, 1), (1, 1))),
            ("pair", ((0, 0), (0, 1))), ("pair", ((1, 1), (0, 1))),
            ("pair", ((0, 1), (0, 0))), ("pair", ((0, 1), (1, 1))),
            ("tail", ((1, 1), (0, 1))),
            ("rest", ((1, 1), (0, 1))), ("rest", ((0, 1), (1, 1))),
            ("all", ((1, 1), (0, 1))), ("all", ((0, 1), (1, 1))),
            ("pair", ((0, 1), (0, 1))), ("rest", ((0, 1), (0, 1))), ("all", ((0, 1), (0, 1))),
        ))

    def test_drawn_programs(self):
        for _, book in ringless(range(120)):
            shape = Shape(book)
            for lengths in small_lengths(book.rows):
                reckoned = Reckoned(book.program, lengths)
                spots = reckoned.spots()
                self.same(spots_of(shape, lengths), spots)
                self.same(whole_spot(shape, lengths), reckoned.whole())
                self.all_asked(shape, lengths, spots)
                self.parts_of(shape, lengths, reckoned)

    def all_asked(self, shape, lengths, spots):
        """is_spot is True just for the spots, beyond the lengths, too."""
        sides = [[(a, b) for a in range(-1, length + 2) for b in range(a, length + 3)]
                 for length in lengths]
        asked = [(lot, stretch) for lot in shape.book.lots() for stretch in product(*sides)]
        self.assertLessEqual(set(spots), set(asked))
        for spot in asked:
            self.assertIs(is_spot(shape, lengths, spot), spot in spots)

    def parts_of(self, shape, lengths, reckoned):
        """The spots of parts are spots, and stand in earlier waves."""
        for spot in spots_of(shape, lengths):
            told = [(way, cut, list(part_spots(shape, spot, way, cut)))
                    for way in shape.live(spot[0]) for cut in cuts_of(shape, spot[0], way, spot[1])]
            self.same(told, reckoned.looks(spot))
            for _, _, parts in told:
                for part in parts:
                    self.assertTrue(is_spot(shape, lengths, part))
                    self.assertLess(reckoned.wave(part), reckoned.wave(spot))

    def test_all_nodes_of_candidates_stand_at_spots(self):
        seen = 0
        for draw, book in ringless(range(120)):
            shape, rows = Shape(book), draw.drawn_rows()
            lengths = tuple(len(row) for row in rows)
            spots = set(spots_of(shape, lengths))
            for tree in all_candidates(shape, rows):
                for _, lot, stretch in nodes_of(book, tree, whole_of(lengths)):
                    seen += 1
                    self.assertIn((lot, stretch), spots)
        self.assertGreater(seen, 150)

    def test_programs_without_useful_lots(self):
        found = [book for _, book in drawn_books(range(200))
                 if book.start not in made(book.program) and ranks(book.program) is not None]
        self.assertTrue(found)
        for book in found:
            self.same(spots_of(Shape(book), (2,) * book.rows), ())
