"""[9], [39]: signed ways."""

from chooseonce.books import Book
from chooseonce.programs import read
from chooseonce.signing import is_signed, signing_of
from chooseonce.wayreading import read_way
from tests.helping import EDGE, Case
from tests.shapedrawing import drawn_books
from tests.shapereckoning import signings

ONE = Book(read("""signs abc
rows 1
pairs same aa bb cc
pairs up ab bc
pairs back ba cb
pairs loop ca
start s
lot s
way f(none)
"""))
TWO = Book(read("signs abc\nrows 2\npairs up ab bc\nstart s\nlot s\nway f(none / none)\n"))


class Signing(Case):
    def told(self, text, wanted, book=ONE):
        """One signing alone is right, or there is none."""
        way = read_way(book.rows, text)
        self.same(signing_of(book, way), wanted)
        self.same(is_signed(book, way), wanted is not None)

    def any_of(self, text, book=ONE):
        """Any one that is listed by trying all signs."""
        way = read_way(book.rows, text)
        self.assertIn(signing_of(book, way), signings(book.program, way))
        self.same(is_signed(book, way), True)

    def test_as_the_document_prints_it(self):
        book = Book(read(EDGE))
        self.same(signing_of(book, book.ways("core")[1]), (((0, 0), "b"), ((1, 0), "b")))

    def test_without_a_sign_place(self):
        for text in ("way f(none)", "way f(s)", "way f(s, none, run 1 any, s)", "way f(run 3 3)"):
            self.told(text, ())
        self.told("way f(none / run 2 3, s)", (), TWO)

    def test_letters(self):
        self.told("way f(sign(b))", (((0, 0), "b"),))
        self.told("way f(sign(c), s, sign(a))", (((0, 0), "c"), ((2, 0), "a")))
        self.any_of("way f(sign)")
        self.any_of("way f(sign(cb), run 1 1, sign)")

    def test_each_place_is_told_by_piece_then_row(self):
        self.told("way f(sign(b) / sign(a), s, none / sign(c), sign(a) / none)",
                  (((0, 0), "b"), ((0, 1), "a"), ((2, 1), "c"), ((3, 0), "a")), TWO)
        # The tests name them in another sequence.
        self.told("way f(sign / sign, sign(b) / none) when up 0.1 1.0 and up 0.1 0.0",
                  (((0, 0), "b"), ((0, 1), "a"), ((1, 0), "b")), TWO)

    def test_one_ref_twice(self):
        self.any_of("way f(sign) when same 0 0")
        self.told("way f(sign) when up 0 0", None)
        self.told("way f(sign, sign(a)) when same 1 1 and up 1 0", (((0, 0), "b"), ((1, 0), "a")))

    def test_several_places_in_a_chain(self):
        self.told("way f(sign, sign, sign) when up 0 1 and up 1 2",
                  (((0, 0), "a"), ((1, 0), "b"), ((2, 0), "c")))
        self.told("way f(sign, s, sign, sign) when back 2 0 and back 3 2",
                  (((0, 0), "a"), ((2, 0), "b"), ((3, 0), "c")))
        self.told("way f(sign, sign, sign) when up 0 1 and up 2 1 and up 1 2", None)
        self.told("way f(sign, sign, sign, sign) when up 0 1 and up 1 2 and up 2 3", None)
        self.told("way f(sign, sign, sign) when up 0 1 and up 1 2 and loop 2 0",
                  (((0, 0), "a"), ((1, 0), "b"), ((2, 0), "c")))

    def test_two_places_in_several_tests(self):
        self.any_of("way f(sign, sign) when up 0 1 and back 1 0")
        self.told("way f(sign, sign(c)) when up 0 1 and back 1 0", (((0, 0), "b"), ((1, 0), "c")))
        self.told("way f(sign, sign) when up 0 1 and up 1 0", None)

    def test_letters_of_unlike_places(self):
        self.told("way f(sign(ab), sign(ab)) when up 0 1", (((0, 0), "a"), ((1, 0), "b")))
        self.told("way f(sign(bc), sign) when up 0 1", (((0, 0), "b"), ((1, 0), "c")))
        self.told("way f(sign(a), sign(c)) when up 0 1", None)
        self.told("way f(sign(c), sign) when up 0 1", None)

    def test_all_tests_must_hold(self):
        self.told("way f(sign, sign, sign, sign) when up 0 1 and up 2 2", None)
        self.told("way f(sign, sign(a), sign) when same 0 1 and up 0 2",
                  (((0, 0), "a"), ((1, 0), "a"), ((2, 0), "b")))

    def test_ways_that_do_not_stand_in_the_program(self):
        self.told("way other(lost, sign(a)) when up 1 1", None)
        self.same(signing_of(way=read_way(1, "way f(sign(a), lost)"), book=ONE), (((0, 0), "a"),))
        self.same(is_signed(way=read_way(1, "way f(sign(a), lost)"), book=ONE), True)

    def test_drawn_ways(self):
        told = []
        for _, book in drawn_books(range(150)):
            for lot in book.lots():
                for way in book.ways(lot):
                    wanted = signings(book.program, way)
                    got = signing_of(book, way)
                    self.assertTrue(got in wanted if wanted else got is None)
                    self.same(is_signed(book, way), wanted != [])
                    told.append((got is None, len(way[2])))
        self.assertGreater(told.count((True, 1)), 5)
        self.assertGreater(told.count((False, 1)), 50)
