"""[9], [47]: margins."""

from chooseonce.books import Book
from chooseonce.margins import margins_of
from chooseonce.programs import read
from tests import shapereckoning
from tests.helping import CIRCLE, EDGE, FOLD, TWIN, Case
from tests.shapedrawing import drawn_books


class Margins(Case):
    def told(self, lots, *wanted):
        book = Book(read(f"signs ab\nrows {len(wanted)}\npairs up ab\nstart s\n" + lots))
        self.same(tuple(margins_of(book, row) for row in range(len(wanted))), wanted)

    def test_as_the_document_prints_it(self):
        self.same(margins_of(Book(read(EDGE)), 0), ((0, 0, 0, 0), (0, None, 1, 2), (0, None, 0, 0)))

    def test_programs_of_the_document(self):
        self.same(margins_of(row=0, book=Book(read(FOLD))), ((0, None, 0, None),))
        end, open_both = (0, None, 0, 0), (0, None, 0, None)
        for row in (0, 1):
            self.same(margins_of(Book(read(TWIN)), row), (end, open_both, end, end))

    def test_the_start_alone(self):
        self.told("lot s\nway f(sign, run 0 any)", ((0, 0, 0, 0),))
        self.told("lot s\nway f(s)\nlot t\nway g(none)", ())

    def test_what_stands_ahead_and_behind(self):
        self.told("lot s\nway f(sign, run 2 5, t, none, run 1 3)\nlot t\nway g(none)",
                  ((0, 0, 0, 0), (3, 6, 1, 3)))
        self.told("lot s\nway f(run 2 any, t, sign)\nway h(t)\nlot t\nway g(run 0 1)", ((0, 0, 0, 0), (0, None, 0, 1)))

    def test_all_ways_and_places_count(self):
        self.told("lot s\nway f(run 3 3, t, run 5 5)\nway h(t, t, run 1 1)\nlot t\nway g(run 1 2)",
                  ((0, 0, 0, 0), (0, 3, 1, 5)))

    def test_over_several_steps(self):
        self.told("lot s\nway f(run 1 2, t, run 0 3)\nway h(u, run 10 10)\nlot t\nway k(run 3 3, u, run 4 5)\n"
                  "lot u\nway m(none)", ((0, 0, 0, 0), (1, 2, 0, 3), (0, 5, 4, 10)))

    def test_a_step_later_in_the_program_leads_to_earlier_lots(self):
        self.told("lot a\nway m(none)\nlot b\nway k(sign, a)\nlot c\nway k(sign, b)\nlot s\nway k(sign, c)",
                  ((3, 3, 0, 0), (2, 2, 0, 0), (1, 1, 0, 0), (0, 0, 0, 0)))

    def test_again_and_again(self):
        self.told("lot s\nway f(s, sign)\nway g(t)\nlot t\nway m(none)", ((0, 0, 0, None), (0, 0, 0, None)))
        self.told("lot s\nway f(sign, t)\nlot t\nway g(u, s)\nway m(none)\nlot u\nway h(run 0 2)",
                  ((0, None, 0, 0), (1, None, 0, 0), (1, None, 1, None)))
        # Here what lies around the lots has no width.
        self.told("lot s\nway f(s, none)\nway g(run 1 1, t)\nlot t\nway g(run 0 0, t)\nway m(none)",
                  ((0, 0, 0, 0), (1, 1, 0, 0)))

    def test_a_greatest_one_only_where_there_is_one_on_each_way(self):
        self.told("lot s\nway f(run 0 any, t)\nway g(t, run 0 3)\nway h(u)\nlot t\nway m(none)\nway h(u)\n"
                  "lot u\nway m(none)", ((0, 0, 0, 0), (0, None, 0, 3), (0, None, 0, 3)))
        self.told(CIRCLE.partition("start s\n")[2], ((0, 0, 0, 0),))

    def test_on_two_rows(self):
        self.told("lot s\nway f(sign / none, s)\nway g(t, none / run 2 3)\nlot t\nway m(none / none)",
                  ((0, None, 0, 0), (0, None, 0, 0)), ((0, 0, 0, 0), (0, 0, 2, 3)))

    def test_ways_that_are_not_live_and_lots_that_are_not_useful_count_nothing(self):
        self.told("lot s\nway f(run 7 7, t, sign) when up 2 2\nway g(run 9 9, t, lost)\nway h(sign, t)\n"
                  "lot lost\nway k(lost)\nlot t\nway m(none)\nlot spare\nway n(run 4 4, t)",
                  ((0, 0, 0, 0), (1, 1, 0, 0)))

    def test_drawn_programs(self):
        told = []
        for _, book in drawn_books(range(250)):
            lots = shapereckoning.useful(book.program)
            for row in range(book.rows):
                margins = shapereckoning.margins(book.program, row)
                self.same(margins_of(book, row), tuple(margins[lot] for lot in lots))
                told.extend(margins.values())
        self.assertGreater(len(set(told)), 15)
