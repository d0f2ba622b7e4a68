"""[48]: shapes; consequences of [49]."""

from chooseonce.books import Book
from chooseonce.chains import chains_of, ranks_of, ring_of
from chooseonce.comings import comes_to, long_lots, steps_of
from chooseonce.errors import Ring
from chooseonce.greatestwidths import greatest_widths
from chooseonce.leastwidths import empty_lots, least_widths
from chooseonce.making import live_ways, made_lots, useful_lots
from chooseonce.margins import margins_of
from chooseonce.programs import read
from chooseonce.ringsamples import ring_shown
from chooseonce.shapes import Shape
from chooseonce.signing import signing_of
from tests.helping import CIRCLE, EDGE, FOLD, TWIN, Case
from tests.shapedrawing import drawn_books, ringless


class Shapes(Case):
    def look(self, book):
        """Compares all that a shape tells with what the functions tell of its book."""
        shape = Shape(book)
        self.same(shape.useful, useful_lots(book))
        self.same(tuple(shape.rank(lot) for lot in shape.useful), ranks_of(book))
        self.same(tuple(lot for lot in shape.useful if shape.is_empty(lot)), empty_lots(book))
        for lot in shape.useful:
            self.same(shape.live(lot), live_ways(book, lot))
            self.same(shape.place(lot), book.lots().index(lot))
            self.assertIs(type(shape.is_empty(lot)), bool)
        for row in range(book.rows):
            widths = tuple(shape.widths(lot, row) for lot in shape.useful)
            self.same(widths, tuple(zip(least_widths(book, row), greatest_widths(book, row))))
            self.same(tuple(shape.margin(lot, row) for lot in shape.useful), margins_of(book, row))
            for lot in shape.useful:
                self.same(shape.box(("lot", lot), row), shape.widths(lot, row))

    def test_as_the_document_prints_it(self):
        shape = Shape(Book(read(EDGE)))
        self.same((shape.widths("core", 0), shape.place("core"), shape.margin("edge", 0)),
                  ((1, 2), 2, (0, None, 1, 2)))
        self.same((shape.box(("lot", "edge"), 0), shape.box(("plain", (("sign", "b"),)), 0)),
                  ((0, None), (1, 1)))

    def test_programs_of_the_document(self):
        for text in (EDGE, FOLD, TWIN):
            self.look(Book(read(text)))

    def test_fields(self):
        program = read(EDGE)
        shape = Shape(book=Book(program))
        self.same((shape.book.program, shape.useful), (program, ("whole", "edge", "core")))
        self.assertIs(type(shape.book), Book)

    def test_by_name(self):
        shape = Shape(Book(read(TWIN)))
        self.same((shape.live(lot="pair"), shape.place(lot="tail"), shape.rank(lot="all")), ((0, 1, 2), 3, 2))
        self.same((shape.is_empty(lot="pair"), shape.is_empty(lot="rest")), (False, True))
        self.same((shape.widths(row=1, lot="tail"), shape.margin(row=0, lot="pair")),
                  ((1, None), (0, None, 0, None)))
        self.same(shape.box(row=0, piece=("lot", "rest")), (0, 2))

    def test_boxes_of_plain_pieces(self):
        shape = Shape(Book(read(TWIN)))
        piece = ("plain", (("run", 2, 5), ("run", 80, None)))
        self.same((shape.box(piece, 0), shape.box(piece, 1)), ((2, 5), (80, None)))
        piece = ("plain", (("none",), ("sign", "")))
        self.same((shape.box(piece, 0), shape.box(piece, 1)), ((0, 0), (1, 1)))

    def test_equality(self):
        shape = Shape(Book(read(EDGE)))
        self.same(shape == Shape(Book(read(EDGE))), True)
        self.same(shape != Shape(Book(read(EDGE))), False)
        # All that a shape tells of the lots is the same here, yet the books are not.
        named = Shape(Book(read(EDGE.replace("same", "alike"))))
        for other in (named, Shape(Book(read(FOLD))), shape.book, shape.useful, EDGE, None, 1, ()):
            self.same(shape == other, False)
            self.same(other == shape, False)
            self.same(shape != other, True)

    def test_a_start_that_is_not_made(self):
        shape = Shape(Book(read("signs a\nrows 1\nstart s\nlot s\nway f(s)\nlot t\nway g(t)\nway h(none)")))
        self.same(shape.useful, ())

    def test_rings(self):
        book = Book(read(CIRCLE))
        self.raises(Ring(("s",)), Shape, book)
        book = Book(read("signs a\nrows 1\nstart s\nlot s\nway f(t)\nway h(sign)\nlot t\nway g(u)\nway f(s)\n"
                         "lot u\nway f(t)"))
        for _ in range(2):
            self.raises(Ring(ring_of(book)), Shape, book)

    def test_a_ring_of_what_is_not_useful_or_not_live_is_none(self):
        self.look(Book(read("signs ab\nrows 1\npairs p ab\nstart s\nlot s\nway f(s, sign) when p 1 1\n"
                            "way g(none)\nlot t\nway h(t)\nway g(none)")))

    def test_drawn_programs(self):
        for _, book in ringless(range(120)):
            self.look(book)


def told_by_names(book):
    """What is told of the lots, by their names, without any places."""
    lots = useful_lots(book)
    told = [dict(zip(lots, ranks_of(book))), sorted(empty_lots(book)), sorted(chains_of(book)), sorted(lots)]
    for row in range(book.rows):
        told += [dict(zip(lots, least_widths(book, row))), dict(zip(lots, greatest_widths(book, row))),
                 dict(zip(lots, margins_of(book, row))), sorted(long_lots(book, row))]
    told += [{lot: sorted(comes_to(book, lot)) for lot in lots}]
    return told


class Consequences(Case):
    def test_what_is_not_live_or_not_useful_changes_nothing_but_the_places(self):
        for _, book in ringless(range(80)):
            program = book.program
            signs, rows = program[1], program[2]
            sign = ("plain", (("sign", ""),) * rows)
            run = ("plain", (("run", 0, None),) * rows)
            dead = (("dead", (sign, run, ("lot", "s"), ("lot", "lost")), ()),
                    ("unsigned", (sign, ("lot", "s")), (("never", (0, 0), (0, 0)),)))
            lots = (("lost", (("loop", (("lot", "lost"),), ()),)),
                    ("spare", (("ends", (run,), ()), ("wide", (("lot", "spare"), ("lot", "s")), ()))))
            lots += tuple((lot, dead + ways) for lot, ways in program[6])
            # No word of two alike signs is one of these pairs.
            never = (("never", (signs[0] + "z",)),)
            more = Book((program[0], signs + "z", rows, program[3] + never, program[4], "s", lots, (), ()))
            plain = Book((program[0], signs + "z", rows, program[3], program[4], "s", program[6], (), ()))
            self.assertEqual(told_by_names(more), told_by_names(plain))
            for lot in plain.lots():
                # Other lots may be made now, but none of them is useful.
                self.same(lot in made_lots(more), lot in made_lots(plain))
                self.same(live_ways(more, lot), tuple(way + 2 for way in live_ways(plain, lot)))
            self.assertEqual([(lot, way - 2, place, part) for lot, way, place, part in steps_of(more)],
                             list(steps_of(plain)))

    def test_all_hangs_on_signs_rows_pairs_start_and_lots_alone(self):
        for _, book in drawn_books(range(60)):
            program = book.program
            bare = Book(program[:4] + ((),) + program[5:7] + ((), ()))
            for tell in (made_lots, useful_lots, steps_of, empty_lots, chains_of, ring_of):
                self.same(tell(bare), tell(book))
            for row in range(book.rows):
                for tell in (long_lots, least_widths, greatest_widths, margins_of):
                    self.same(tell(bare, row), tell(book, row))
            for lot in book.lots():
                self.same([signing_of(bare, way) is None for way in bare.ways(lot)],
                          [signing_of(book, way) is None for way in book.ways(lot)])

    def test_sums_of_least_and_greatest_widths(self):
        for _, book in ringless(range(80)):
            shape = Shape(book)
            for row in range(book.rows):
                for lot in shape.useful:
                    sums = [[shape.box(piece, row) for piece in book.ways(lot)[way][1]]
                            for way in shape.live(lot)]
                    least, greatest = shape.widths(lot, row)
                    self.same(least, min(sum(box[0] for box in boxes) for boxes in sums))
                    tops = [box[1] for boxes in sums for box in boxes]
                    self.same(greatest is None, None in tops)
                    if greatest is not None:
                        self.same(greatest, max(sum(box[1] for box in boxes) for boxes in sums))
                    if shape.is_empty(lot):
                        self.same(least, 0)

    def test_margins_along_steps(self):
        for _, book in ringless(range(80)):
            shape = Shape(book)
            for row in range(book.rows):
                if shape.useful:
                    self.same(shape.margin("s", row)[::2], (0, 0))
                for lot, way, place, part in steps_of(book):
                    pieces = book.ways(lot)[way][1]
                    for at, beside in ((0, pieces[:place]), (2, pieces[place + 1:])):
                        boxes = [shape.box(piece, row) for piece in beside]
                        above, below = shape.margin(lot, row)[at:], shape.margin(part, row)[at:]
                        self.assertLessEqual(below[0], above[0] + sum(box[0] for box in boxes))
                        if below[1] is not None:
                            tops = [box[1] for box in boxes] + [above[1]]
                            self.assertNotIn(None, tops)
                            self.assertGreaterEqual(below[1], sum(tops))

    def test_a_ring_is_told_by_all_or_none(self):
        for _, book in drawn_books(range(120)):
            ring = ring_of(book)
            self.same(ring_shown(book, 2) is None, ring is None)
            if ring is not None:
                self.raises(Ring(ring), ranks_of, book)
                self.raises(Ring(ring), Shape, book)
