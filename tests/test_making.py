"""[9], [40]: made and useful lots, live ways; (G2)."""

from itertools import product

from chooseonce.books import Book
from chooseonce.making import live_ways, made_lots, useful_lots
from chooseonce.programs import read
from chooseonce.samples import sample
from chooseonce.standing import stands
from tests import shapereckoning
from tests.helping import EDGE, FOLD, TWIN, Case
from tests.listing import candidates
from tests.shapedrawing import drawn_books


def book_of(lots, rest=""):
    return Book(read("signs ab\nrows 1\npairs up ab\n" + rest + "start s\n" + lots))


class Making(Case):
    def told(self, book, made, useful, live):
        """live has the live ways of all lots, in the program's sequence."""
        self.same(made_lots(book), made)
        self.same(useful_lots(book), useful)
        self.same(tuple(live_ways(book, lot) for lot in book.lots()), live)

    def test_as_the_document_prints_it(self):
        book = Book(read(EDGE))
        self.same((made_lots(book), useful_lots(book)),
                  (("whole", "edge", "core", "spare"), ("whole", "edge", "core")))
        self.same((live_ways(book, "core"), live_ways(book, "lost")), ((0, 1), ()))

    def test_programs_of_the_document(self):
        self.told(Book(read(FOLD)), ("fold",), ("fold",), ((0, 1, 2),))
        self.told(Book(read(TWIN)), ("all", "pair", "rest", "tail"), ("all", "pair", "rest", "tail"),
                  ((0, 1), (0, 1, 2), (0, 1), (0,), ()))

    def test_by_name(self):
        book = Book(read(FOLD))
        self.same((made_lots(book=book), useful_lots(book=book)), (("fold",), ("fold",)))
        self.same(live_ways(lot="fold", book=book), (0, 1, 2))

    def test_a_start_that_is_not_made(self):
        self.told(book_of("lot s\nway f(s)\nlot t\nway g(none)"), ("t",), (), ((), (0,)))
        self.told(book_of("lot s\nway f(sign) when up 0 0"), (), (), ((),))
        self.told(book_of("lot s\nway f(t)\nway h(t, t)\nlot t\nway g(s)"), (), (), ((), ()))
        self.told(book_of("lot s\nway f(t, u)\nlot t\nway g(none)\nlot u\nway h(u)"),
                  ("t",), (), ((), (0,), ()))

    def test_a_lot_that_leads_to_itself_alone(self):
        self.told(book_of("lot s\nway f(t)\nway g(sign)\nlot t\nway h(t)"), ("s",), ("s",), ((1,), ()))

    def test_lots_that_are_made_of_one_another(self):
        self.told(book_of("lot s\nway f(t)\nlot t\nway f(u)\nlot u\nway f(w)\nlot w\nway g(none)"),
                  ("s", "t", "u", "w"), ("s", "t", "u", "w"), ((0,), (0,), (0,), (0,)))

    def test_useful_lots_stand_in_the_programs_sequence(self):
        lots = "lot w\nway g(none)\nlot u\nway f(w)\nlot s\nway f(u)\nlot t\nway f(w)"
        self.told(book_of(lots), ("w", "u", "s", "t"), ("w", "u", "s"), ((0,), (0,), (0,), (0,)))

    def test_a_way_is_live_only_if_it_is_signed_and_its_parts_are_made(self):
        self.told(book_of("lot s\nway f(sign) when up 0 0\nway g(none)\nway h(sign, sign) when up 0 1\n"
                          "way k(s, t)\nway k(s, s)\nlot t\nway m(t)"),
                  ("s",), ("s",), ((1, 2, 4), ()))

    def test_lots_of_ways_that_are_not_live_are_not_useful(self):
        self.told(book_of("lot s\nway f(sign, t) when up 0 0\nway g(none)\nlot t\nway h(none)"),
                  ("s", "t"), ("s",), ((1,), (0,)))
        # A live way of a lot that is not useful makes nothing useful, either.
        self.told(book_of("lot s\nway f(none)\nlot t\nway g(u)\nlot u\nway f(none)"),
                  ("s", "t", "u"), ("s",), ((0,), (0,), (0,)))

    def test_drawn_programs(self):
        told = set()
        for _, book in drawn_books(range(200)):
            made = shapereckoning.made(book.program)
            live = shapereckoning.live(book.program)
            useful = shapereckoning.useful(book.program)
            self.told(book, tuple(lot for lot in book.lots() if lot in made), useful,
                      tuple(tuple(live[lot]) for lot in book.lots()))
            told.add((len(useful), len(book.lots())))
        self.assertLessEqual({(0, 1), (0, 3), (1, 4), (2, 3), (4, 4)}, told)

    def test_each_live_way_has_a_candidate(self):
        looked = 0
        for _, book in drawn_books(range(80)):
            program = book.program
            for lot in book.lots():
                for number, way in enumerate(book.ways(lot)):
                    # alone is made exactly if this way is live.
                    more = Book(program[:6] + (program[6] + (("alone", (way,)),),) + program[7:])
                    self.same("alone" in made_lots(more), number in live_ways(book, lot))
                    if number in live_ways(book, lot):
                        rows, tree = sample(more, "alone")
                        whole = tuple((0, len(row)) for row in rows)
                        self.same(stands(more, rows, tree, "alone", whole), True)
                        self.same(stands(more, rows, (lot, number) + tree[2:], lot, whole), True)
                        looked += 1
        self.assertGreater(looked, 100)

    def test_what_is_not_made_or_live_has_no_candidates(self):
        looked = 0
        for _, book in drawn_books(range(60)):
            program = book.program
            for rows in product(*[("", *program[1], program[1] * 2)] * program[2]):
                whole = tuple((0, len(row)) for row in rows)
                for lot in book.lots():
                    ways = {tree[1] for tree in candidates(program, rows, lot, whole, 2)}
                    self.assertLessEqual(ways, set(live_ways(book, lot)))
                    looked += len(book.ways(lot)) > len(live_ways(book, lot))
        self.assertGreater(looked, 100)
