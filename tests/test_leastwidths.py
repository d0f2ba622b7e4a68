"""[9], [43]: least widths, and empty lots."""

from chooseonce.books import Book
from chooseonce.leastwidths import empty_lots, least_widths
from chooseonce.programs import read
from tests import shapereckoning
from tests.helping import EDGE, FOLD, TWIN, Case
from tests.shapedrawing import drawn_books


class Least(Case):
    def told(self, lots, empty, *wanted):
        book = Book(read(f"signs ab\nrows {len(wanted)}\npairs up ab\nstart s\n" + lots))
        self.same(tuple(least_widths(book, row) for row in range(len(wanted))), wanted)
        self.same(empty_lots(book), empty)

    def test_as_the_document_prints_it(self):
        book = Book(read(EDGE))
        self.same((least_widths(book, 0), empty_lots(book)), ((1, 0, 1), ("edge",)))

    def test_programs_of_the_document(self):
        book = Book(read(FOLD))
        self.same((least_widths(row=0, book=book), empty_lots(book=book)), ((0,), ("fold",)))
        book = Book(read(TWIN))
        self.same((least_widths(book, 0), least_widths(book, 1)), ((0, 0, 0, 0), (0, 0, 0, 1)))
        self.same(empty_lots(book), ("all", "rest"))

    def test_plain_pieces(self):
        self.told("lot s\nway f(sign, none, run 3 any, run 0 2, sign(a))", (), (5,))
        self.told("lot s\nway f(none, run 0 any, run 0 0)", ("s",), (0,))
        self.told("lot s\nway f(sign / none, run 2 2 / run 80 80)", (), (3,), (80,))

    def test_the_least_of_all_live_ways(self):
        self.told("lot s\nway f(run 4 4)\nway g(run 2 any)\nway h(run 3 3)", (), (2,))
        self.told("lot s\nway f(run 4 4)\nway g(sign) when up 0 0\nway h(none, lost)\nlot lost\nway k(lost)",
                  (), (4,))

    def test_lots_of_one_another(self):
        self.told("lot s\nway f(t, t, sign)\nlot t\nway g(s)\nway h(u, u)\nlot u\nway k(run 2 9)\nway f(t, t, sign)",
                  (), (9, 4, 2))
        self.told("lot s\nway f(t)\nlot t\nway f(u)\nlot u\nway f(w)\nlot w\nway f(s)\nway g(run 7 7)",
                  (), (7, 7, 7, 7))

    def test_a_way_around_is_longer(self):
        self.told("lot s\nway f(s, s)\nway g(run 5 5)", (), (5,))
        self.told("lot s\nway f(s)\nway g(run 5 5)", (), (5,))

    def test_rows_by_themselves(self):
        # On each row another way has the least width, so the lot is not empty.
        self.told("lot s\nway f(sign / none)\nway g(none / sign)", (), (0,), (0,))
        self.told("lot s\nway f(t, t)\nlot t\nway g(run 0 1 / sign)\nway h(sign / none)", (), (0, 0), (0, 0))
        self.told("lot s\nway f(t, t)\nlot t\nway g(run 0 1 / sign)\nway h(none / none)",
                  ("s", "t"), (0, 0), (0, 0))

    def test_empty_by_parts(self):
        self.told("lot s\nway f(t, u)\nlot t\nway g(none)\nlot u\nway h(run 0 1)\nway k(sign)",
                  ("s", "t", "u"), (0, 0, 0))
        self.told("lot u\nway h(run 1 1)\nlot s\nway f(t, u)\nlot t\nway g(none)", ("t",), (1, 1, 0))
        self.told("lot s\nway f(s)\nway g(sign)", (), (1,))

    def test_useful_lots_alone(self):
        self.told("lot spare\nway n(none)\nlot s\nway f(sign)\nlot lost\nway k(lost)", (), (1,))
        self.told("lot s\nway f(s, none)\nlot spare\nway n(none)", (), ())

    def test_wide_ones(self):
        lots = "".join(f"lot l{at}\nway f(l{at + 1}, l{at + 1}, l{at + 1}, l{at + 1}, l{at + 1})\n"
                       for at in range(6))
        self.told("lot s\nway g(l0)\n" + lots + "lot l6\nway h(run 80 80)\nway g(s)", (), tuple(
            [80 * 5 ** 6] + [80 * 5 ** (6 - at) for at in range(7)]))

    def test_drawn_programs(self):
        told = []
        for _, book in drawn_books(range(200)):
            lots = shapereckoning.useful(book.program)
            found = shapereckoning.empty(book.program)
            self.same(empty_lots(book), tuple(lot for lot in lots if lot in found))
            for row in range(book.rows):
                widths = shapereckoning.widths(book.program, row)
                self.same(least_widths(book, row), tuple(widths[lot][0] for lot in lots))
            twin = [lot for lot in lots if lot not in found and not any(
                shapereckoning.widths(book.program, row)[lot][0] for row in range(book.rows))]
            told.append(len(twin))
        self.assertGreater(sum(told), 0)
