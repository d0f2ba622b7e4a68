"""[46]: what a ring does; (G3)."""

from chooseonce.books import Book
from chooseonce.chains import ring_of
from chooseonce.programs import read
from chooseonce.ringsamples import ring_shown
from chooseonce.standing import wrong_at
from chooseonce.stretches import whole_of
from chooseonce.trees import height_of
from tests.helping import CIRCLE, EDGE, FOLD, TWIN, Case
from tests.shapedrawing import drawn_books


class Shown(Case):
    def look(self, book, many):
        rows, trees = ring_shown(book, many)
        self.assertIs(type(trees), tuple)
        self.same((len(rows), len(trees)), (book.rows, many))
        for at, tree in enumerate(trees):
            whole = whole_of([len(row) for row in rows])
            self.same(wrong_at(book, rows, tree, book.start, whole), None)
            self.assertLessEqual(height_of(tree), 200)
            self.assertNotIn(tree, trees[:at])
        return rows, trees

    def book(self, lots, rows=1):
        return Book(read(f"signs ab\nrows {rows}\npairs up ab\nstart s\n" + lots))

    def test_as_the_document_prints_it(self):
        circle = Book(read(CIRCLE))
        rows, trees = ring_shown(circle, 3)
        self.same((len(rows), len(trees)), (1, 3))
        self.look(circle, 3)

    def test_without_a_ring(self):
        for text in (EDGE, FOLD, TWIN):
            for many in (1, 20):
                self.same(ring_shown(Book(read(text)), many), None)
        self.same(ring_shown(many=2, book=self.book("lot s\nway f(s)\nlot t\nway f(t)\nway g(none)")), None)

    def test_one_and_twenty(self):
        for many in range(1, 21):
            self.look(Book(read(CIRCLE)), many)

    def test_rings_of_many_lots_behind_others(self):
        lots = "lot s\nway f(sign, a)\nlot a\nway g(run 2 2, b0)\n"
        lots += "".join(f"lot b{at}\nway h(e, b{(at + 1) % 5}, e)\n" for at in range(5))
        for many in (1, 20):
            self.look(self.book(lots + "way k(sign(b))\nlot e\nway m(run 0 any, e2)\nlot e2\nway n(none)"), many)

    def test_a_ring_of_eight_lots(self):
        lots = "lot s\nway f(b1)\n" + "".join(f"lot b{at}\nway f(b{at + 1})\n" for at in range(1, 7))
        self.look(self.book(lots + "lot b7\nway f(s)\nway k(sign)"), 20)

    def test_on_two_rows(self):
        self.look(self.book("lot s\nway f(s, none / run 0 any)\nway h(sign / sign) when up 0.0 0.1", 2), 20)
        self.look(self.book("lot s\nway h(t, sign / none)\nlot t\nway f(u, t, u)\nway k(none / sign(b))\n"
                            "lot u\nway m(none / none)\nway h(u, sign / none)", 2), 20)

    def test_a_part_twice_in_a_way_around(self):
        self.look(self.book("lot s\nway f(s, s)\nway g(none)"), 20)
        self.look(self.book("lot s\nway h(sign, t)\nlot t\nway f(u, u)\nway k(sign)\nlot u\nway f(t, t)\n"
                            "way g(none)"), 20)

    def test_drawn_programs(self):
        shown = 0
        for _, book in drawn_books(range(250)):
            if ring_of(book) is None:
                self.same(ring_shown(book, 3), None)
            else:
                self.look(book, 1 + shown % 20)
                shown += 1
        self.assertGreater(shown, 30)
