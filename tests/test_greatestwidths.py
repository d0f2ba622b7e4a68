"""[9], [44]: greatest widths."""

from chooseonce.books import Book
from chooseonce.comings import long_lots
from chooseonce.greatestwidths import greatest_widths
from chooseonce.programs import read
from tests import shapereckoning
from tests.helping import EDGE, FOLD, TWIN, Case
from tests.shapedrawing import drawn_books


class Greatest(Case):
    def told(self, lots, *wanted):
        book = Book(read(f"signs ab\nrows {len(wanted)}\npairs up ab\nstart s\n" + lots))
        self.same(tuple(greatest_widths(book, row) for row in range(len(wanted))), wanted)

    def test_as_the_document_prints_it(self):
        self.same(greatest_widths(Book(read(EDGE)), 0), (None, None, 2))

    def test_programs_of_the_document(self):
        self.same(greatest_widths(row=0, book=Book(read(FOLD))), (None,))
        book = Book(read(TWIN))
        self.same((greatest_widths(book, 0), greatest_widths(book, 1)), ((None, 1, 2, 0), (None, 1, None, None)))

    def test_plain_pieces(self):
        self.told("lot s\nway f(sign, none, run 3 5, run 0 2, sign(a))", (9,))
        self.told("lot s\nway f(none, run 0 0)", (0,))
        self.told("lot s\nway f(run 80 80, run 0 80 , run 79 any)", (None,))
        self.told("lot s\nway f(sign / none, run 2 2 / run 0 80)", (3,), (80,))

    def test_the_greatest_of_all_live_ways(self):
        self.told("lot s\nway f(run 1 4)\nway g(run 2 7)\nway h(run 3 3)", (7,))
        self.told("lot s\nway f(run 1 4)\nway g(sign, run 0 any) when up 0 0\nway h(run 9 9, lost)\n"
                  "lot lost\nway k(lost)", (4,))

    def test_lots_of_one_another(self):
        self.told("lot s\nway f(t, u, t)\nlot t\nway g(u, u)\nway h(run 0 3)\nlot u\nway k(run 1 2)", (10, 4, 2))

    def test_rings_without_width(self):
        self.told("lot s\nway f(t)\nway k(sign)\nlot t\nway f(s)\nway g(run 2 3)", (3, 3))
        self.told("lot s\nway f(s, none)\nway k(t, t)\nlot t\nway m(t)\nway g(run 2 3)", (6, 3))
        self.told("lot s\nway f(s, none / sign)\nway k(t, t)\nlot t\nway g(run 2 3 / none)", (6, 3), (None, 0))

    def test_useful_lots_alone(self):
        self.told("lot spare\nway n(run 0 any)\nlot s\nway f(sign)\nlot lost\nway k(lost)", (1,))
        self.told("lot s\nway f(s, none)\nlot spare\nway n(none)", ())

    def test_wide_ones(self):
        lots = "".join(f"lot l{at}\nway f(l{at + 1}, l{at + 1}, l{at + 1}, l{at + 1}, l{at + 1})\n"
                       for at in range(6))
        self.told("lot s\nway g(l0)\n" + lots + "lot l6\nway h(run 0 80)", tuple(
            [80 * 5 ** 6] + [80 * 5 ** (6 - at) for at in range(7)]))

    def test_drawn_programs(self):
        great = []
        for _, book in drawn_books(range(200)):
            lots = shapereckoning.useful(book.program)
            for row in range(book.rows):
                widths = shapereckoning.widths(book.program, row)
                told = tuple(widths[lot][1] for lot in lots)
                self.same(greatest_widths(book, row), told)
                self.same(long_lots(book, row), tuple(lot for lot in lots if widths[lot][1] is None))
                great.extend([one for one in told if one is not None])
        self.assertGreater(max(great), 5)
