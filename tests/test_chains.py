"""[9], [45]: chains, rings and ranks."""

from chooseonce.books import Book
from chooseonce.chains import chains_of, ranks_of, ring_of
from chooseonce.errors import Ring
from chooseonce.making import useful_lots
from chooseonce.programs import read
from chooseonce.shapes import Shape
from tests import shapereckoning
from tests.helping import CIRCLE, EDGE, FOLD, TWIN, Case
from tests.shapedrawing import drawn_books


class Chains(Case):
    def book(self, lots, rows=1):
        return Book(read(f"signs ab\nrows {rows}\npairs up ab\nstart s\n" + lots))

    def told(self, lots, chains, ranks, rows=1):
        """Of a program without a ring."""
        book = self.book(lots, rows)
        self.same((chains_of(book), ring_of(book), ranks_of(book)), (chains, None, ranks))

    def look_ring(self, book):
        """Looks at the ring that is told; returns its lots, sorted."""
        ring, chains = ring_of(book), chains_of(book)
        self.assertIs(type(ring), tuple)
        self.assertEqual(len(set(ring)), len(ring))
        for lot, other in zip(ring, ring[1:] + ring[:1]):
            self.assertIn((lot, other), chains)
        for _ in range(2):
            self.raises(Ring(ring), ranks_of, book)
            self.raises(Ring(ring), Shape, Book(book.program))
        return tuple(sorted(ring))

    def test_as_the_document_prints_it(self):
        book = Book(read(EDGE))
        self.same((chains_of(book), ring_of(book), ranks_of(book)), ((("whole", "core"),), None, (1, 0, 0)))
        self.raises(Ring(("s",)), ranks_of, Book(read(CIRCLE)))

    def test_programs_of_the_document(self):
        book = Book(read(FOLD))
        self.same((chains_of(book=book), ring_of(book=book), ranks_of(book=book)), ((), None, (0,)))
        book = Book(read(TWIN))
        self.same(chains_of(book), (("all", "pair"), ("all", "rest"), ("rest", "tail")))
        self.same(ranks_of(book), (2, 0, 1, 0))

    def test_what_can_be_empty(self):
        lots = "\nlot t\nway g(sign)\nlot u\nway h(sign)\nway k(none)"
        for pieces, chains in (
            ("t", (("s", "t"),)), ("t, none", (("s", "t"),)), ("run 0 any, t, run 0 0", (("s", "t"),)),
            ("t, run 1 any", ()), ("sign, t", ()), ("t, u", (("s", "t"),)), ("t, t", ()),
            ("u, u", (("s", "u"),)), ("u, t, u", (("s", "t"),)), ("u, sign", ()),
        ):
            others = ", ".join(sorted({"t", "u"} - set(pieces.split(", "))) + ["sign"])
            told = self.book(f"lot s\nway f({pieces})\nway m({others})" + lots)
            self.same(chains_of(told), chains)

    def test_on_two_rows_all_must_be_empty(self):
        lots = "\nlot t\nway g(sign / sign)"
        for pieces, chains in (
            ("t, none / none", True), ("t, none / run 0 any", True), ("t, none / sign", False),
            ("sign / none, t", False), ("t, run 1 2 / none", False), ("t, run 0 2 / run 1 1", False),
        ):
            told = self.book(f"lot s\nway f({pieces})" + lots, 2)
            self.same(chains_of(told), (("s", "t"),) if chains else ())

    def test_a_lot_with_least_width_0_that_is_not_empty(self):
        lots = "\nlot t\nway g(sign / none)\nway h(none / sign)"
        self.told("lot s\nway f(t, t)" + lots, (), (0, 0), 2)
        self.told("lot s\nway f(t, t)" + lots + "\nway k(run 0 1 / run 0 any)", (("s", "t"),), (1, 0), 2)

    def test_each_pair_once_by_places(self):
        self.told("lot u\nway k(none)\nlot s\nway f(w)\nway m(t, u)\nway f(t)\nway n(t, none)\nway n(w, none)\n"
                  "way f(u)\nlot t\nway k(none)\nlot w\nway f(u)",
                  (("s", "u"), ("s", "t"), ("s", "w"), ("w", "u")), (0, 2, 0, 1))

    def test_other_may_be_the_lot(self):
        book = Book(read(CIRCLE))
        self.same((chains_of(book), ring_of(book)), ((("s", "s"),), ("s",)))
        self.same(self.look_ring(book), ("s",))

    def test_ranks_are_the_longest_ways(self):
        self.told("lot s\nway f(t)\nway f(u)\nway f(w)\nlot t\nway f(w)\nlot u\nway f(t)\nlot w\nway g(sign)",
                  (("s", "t"), ("s", "u"), ("s", "w"), ("t", "w"), ("u", "t")), (3, 1, 2, 0))

    def test_ways_that_are_not_live_and_lots_that_are_not_useful_make_none(self):
        self.told("lot s\nway f(s, lost)\nway g(s, sign) when up 1 1\nway h(none)\nlot lost\nway k(lost)\n"
                  "lot spare\nway k(spare)\nway h(none)\nway k(s)", (), (0,))
        self.told("lot s\nway f(s)\nlot t\nway f(t)\nway h(none)", (), ())

    def test_a_ring_of_several(self):
        book = self.book("lot s\nway f(t)\nlot t\nway f(u)\nway g(s, none)\nlot u\nway h(run 0 any, t, e)\n"
                         "way k(sign)\nlot e\nway k(sign)\nway m(none)")
        self.assertIn(self.look_ring(book), (("s", "t"), ("t", "u")))
        book = self.book("lot u\nway f(s)\nlot s\nway f(t)\nway k(sign)\nlot t\nway f(u)")
        self.same(self.look_ring(book), ("s", "t", "u"))

    def test_a_ring_behind_other_lots(self):
        book = self.book("lot s\nway f(a)\nway g(sign, t)\nlot a\nway k(sign)\nlot t\nway f(b)\nlot b\nway f(c)\n"
                         "way f(a)\nlot c\nway f(b)")
        self.same(self.look_ring(book), ("b", "c"))

    def test_a_ring_through_empty_lots(self):
        book = self.book("lot s\nway f(s, t)\nway k(sign)\nlot t\nway m(none)\nway k(sign)")
        self.same(self.look_ring(book), ("s",))
        book = self.book("lot s\nway f(s, s)\nway m(none)")
        self.same(self.look_ring(book), ("s",))
        self.told("lot s\nway f(s, s)\nway k(sign)", (), (0,))

    def test_drawn_programs(self):
        rings = set()
        for _, book in drawn_books(range(250)):
            chains, ranks = shapereckoning.chains(book.program), shapereckoning.ranks(book.program)
            lots = book.lots()
            self.same(chains_of(book), tuple((lot, other) for lot in lots for other in lots
                                             if (lot, other) in chains))
            if ranks is None:
                rings.add(self.look_ring(book))
            else:
                self.same(ring_of(book), None)
                self.same(ranks_of(book), tuple(ranks[lot] for lot in useful_lots(book)))
                self.assertTrue(all(ranks[lot] > ranks[other] for lot, other in chains))
        self.assertGreater(len(rings), 3)
