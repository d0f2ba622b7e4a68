"""[42]: steps, what they lead to, and lots without a greatest width."""

from chooseonce.books import Book
from chooseonce.comings import comes_to, long_lots, steps_of
from chooseonce.programs import read
from tests import shapereckoning
from tests.helping import CIRCLE, EDGE, FOLD, TWIN, Case
from tests.shapedrawing import drawn_books


def book_of(lots, rows=1):
    return Book(read(f"signs ab\nrows {rows}\npairs up ab\nstart s\n" + lots))


class Steps(Case):
    def test_as_the_document_prints_it(self):
        book = Book(read(EDGE))
        self.same(steps_of(book), (("whole", 0, 0, "edge"), ("whole", 0, 1, "core"), ("edge", 1, 1, "edge")))
        self.same((comes_to(book, "edge"), long_lots(book, 0)), (("edge",), ("whole", "edge")))

    def test_steps_by_lot_way_and_place(self):
        self.same(steps_of(Book(read(FOLD))), (("fold", 1, 1, "fold"), ("fold", 2, 1, "fold"),
                                               ("fold", 2, 3, "fold")))
        self.same(steps_of(book=Book(read(TWIN))), (
            ("all", 0, 0, "pair"), ("all", 0, 1, "all"), ("all", 1, 0, "rest"), ("rest", 1, 1, "tail")))

    def test_steps_of_ways_that_are_not_live_are_none(self):
        book = book_of("lot t\nway h(none)\nlot s\nway f(sign, t) when up 0 0\nway g(t, t)\nway k(u)\n"
                       "lot u\nway m(u)\nway m(w)\nlot w\nway n(sign, s) when up 0 0")
        self.same(steps_of(book), (("s", 1, 0, "t"), ("s", 1, 1, "t")))

    def test_without_useful_lots(self):
        book = book_of("lot s\nway f(s, t)\nlot t\nway g(run 0 any)")
        self.same((steps_of(book), long_lots(book, 0)), ((), ()))

    def test_comes_to_in_the_programs_sequence(self):
        book = book_of("lot w\nway g(none)\nlot u\nway h(none)\nway f(w)\nlot s\nway f(u)\nway k(t, s)\n"
                       "lot t\nway f(w)")
        self.same([comes_to(book, lot) for lot in ("w", "u", "s", "t")],
                  [("w",), ("w", "u"), ("w", "u", "s", "t"), ("w", "t")])
        self.same(comes_to(lot="u", book=book), ("w", "u"))

    def test_comes_to_around(self):
        book = book_of("lot s\nway f(t)\nlot t\nway f(u)\nway g(none)\nlot u\nway f(t)\nway h(s)")
        for lot in ("s", "t", "u"):
            self.same(comes_to(book, lot), ("s", "t", "u"))
        book = book_of("lot s\nway f(t)\nlot t\nway f(u)\nway g(none)\nlot u\nway f(t)")
        self.same([comes_to(book, lot) for lot in ("s", "t", "u")],
                  [("s", "t", "u"), ("t", "u"), ("t", "u")])

    def test_comes_to_itself_by_no_step(self):
        self.same(comes_to(Book(read(EDGE)), "core"), ("core",))
        self.same(comes_to(Book(read(CIRCLE)), "s"), ("s",))


class Long(Case):
    def told(self, lots, *wanted):
        book = book_of(lots, len(wanted))
        self.same(tuple(long_lots(book, row) for row in range(len(wanted))), wanted)

    def test_by_name(self):
        self.same(long_lots(row=0, book=Book(read(FOLD))), ("fold",))

    def test_two_rows(self):
        book = Book(read(TWIN))
        self.same((long_lots(book, 0), long_lots(book, 1)), (("all",), ("all", "rest", "tail")))

    def test_runs(self):
        self.told("lot s\nway f(run 0 any)", ("s",))
        self.told("lot s\nway f(run 80 any)", ("s",))
        self.told("lot s\nway f(run 0 80)", ())
        self.told("lot s\nway f(t)\nlot t\nway g(run 0 any / run 1 1)", ("s", "t"), ())
        self.told("lot s\nway f(t)\nlot t\nway g(none / run 0 any)", (), ("s", "t"))

    def test_rings_without_width(self):
        self.told(CIRCLE.partition("start s\n")[2], ())
        self.told("lot s\nway f(s, run 0 0)\nway g(s, none)\nway h(sign)", ())
        self.told("lot s\nway f(s, t)\nway h(sign)\nlot t\nway g(run 0 0)\nway k(none)", ())

    def test_a_lot_that_comes_to_itself_with_some_width(self):
        self.told("lot s\nway f(s, sign)\nway h(sign)", ("s",))
        self.told("lot s\nway f(run 0 1, s)\nway h(sign)", ("s",))
        self.told("lot s\nway f(s, s)\nway h(sign)", ("s",))
        self.told("lot s\nway f(s, s)\nway h(none)", ())
        self.told("lot s\nway f(s, t)\nway h(sign)\nlot t\nway g(none)\nway k(u)\nlot u\nway k(w)\n"
                  "lot w\nway m(sign)", ("s",))

    def test_the_width_stands_elsewhere_on_the_way_around(self):
        self.told("lot s\nway f(t)\nway g(none)\nlot t\nway f(u)\nlot u\nway h(sign, s)", ("s", "t", "u"))
        # Here the width is not on a way around.
        self.told("lot s\nway f(t, sign)\nlot t\nway g(t)\nway h(none)\nway k(s2)\nlot s2\nway m(sign)", ())

    def test_some_width_on_one_row_alone(self):
        self.told("lot s\nway f(s, sign / none)\nway h(none / none)", ("s",), ())
        self.told("lot s\nway f(s, none / run 0 1)\nway h(sign / sign)", (), ("s",))
        self.told("lot s\nway f(s, none / none)\nway h(sign / sign)", (), ())
        self.told("lot s\nway f(s, sign / none)\nway g(none / sign, s)\nway h(none / none)", ("s",), ("s",))

    def test_lots_in_front_are_long_and_lots_behind_are_not(self):
        self.told("lot s\nway f(t)\nlot t\nway g(t, sign, u)\nway h(none)\nlot u\nway k(sign)", ("s", "t"))

    def test_ways_that_are_not_live_make_nothing_long(self):
        self.told("lot s\nway f(sign, s) when up 0 0\nway g(lost, s)\nway h(run 0 any, lost)\n"
                  "way k(none)\nlot lost\nway m(lost)\nlot spare\nway n(run 0 any)", ())

    def test_drawn_programs(self):
        for _, book in drawn_books(range(150)):
            lots = shapereckoning.useful(book.program)
            for row in range(book.rows):
                widths = shapereckoning.widths(book.program, row)
                self.same(long_lots(book, row), tuple(lot for lot in lots if widths[lot][1] is None))
            pairs = {(lot, part) for lot, ways in shapereckoning.used_ways(book.program).items()
                     for way in ways.values() for part in shapereckoning.part_lots(way)}
            self.assertEqual({(step[0], step[3]) for step in steps_of(book)}, pairs)
            for lot in lots:
                found = {lot}
                for _ in lots:
                    found |= {other for one, other in pairs if one in found}
                self.same(comes_to(book, lot), tuple(one for one in lots if one in found))
