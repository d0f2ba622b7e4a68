"""[6], [31]: dresses."""

from chooseonce.books import Book
from chooseonce.dresses import dress_of, holds, plain_dress
from chooseonce.programs import read
from chooseonce.wayreading import read_way
from tests.helping import FOLD, PAIR, Case

ONE, TWO = Book(read(FOLD)), Book(read(PAIR))


class Dresses(Case):
    def test_as_the_document_prints_it(self):
        way = ONE.ways("fold")[2]
        self.same(dress_of(("abab",), way, ((0, 4),), ((1, 2, 1, 0),)), (("a",), None, ("b",), None))

    def test_on_two_rows(self):
        way = read_way(2, "way f(run 0 any / sign, g, none / run 1 2)")
        self.same(
            dress_of(("abcab", "bca"), way, ((1, 5), (0, 3)), ((2, 1, 1), (1, 0, 2))),
            (("bc", "b"), None, ("b", "ca")),
        )
        self.same(
            dress_of(cut=((0, 0, 0), (0, 0, 0)), stretch=((2, 2), (1, 1)), way=way, rows=("abc", "b")),
            (("", ""), None, ("", "")),
        )

    def test_of_widths_that_marks_do_not_let(self):
        way = read_way(1, "way f(sign, none, run 1 2, none)")
        self.same(dress_of(("abcdef",), way, ((0, 6),), ((2, 1, 3, 0),)),
                  (("ab",), ("c",), ("def",), ("",)))
        self.same(dress_of(("ab",), way, ((1, 1),), ((0, 0, 0, 0),)), (("",), ("",), ("",), ("",)))


class Holding(Case):
    def test_letters(self):
        for letters, let in (("", "ab"), ("(a)", "a"), ("(b)", "b"), ("(ba)", "ab")):
            way = read_way(1, "way f(sign" + letters + ", g)")
            for sign in "ab":
                self.same(holds(ONE, way, ((sign,), None)), sign in let)

    def test_texts_that_are_not_just_one_sign(self):
        for letters in ("", "(ab)", "(a)"):
            way = read_way(1, "way f(sign" + letters + ")")
            for text in ("", "ab", "aa", "aba"):
                self.same(holds(ONE, way, ((text,),)), False)

    def test_each_place_counts(self):
        way = read_way(2, "way f(sign(a) / sign(b), g, none / sign(ac))")
        self.same(holds(TWO, way, (("a", "b"), None, ("", "c"))), True)
        self.same(holds(TWO, way, (("b", "b"), None, ("", "c"))), False)
        self.same(holds(TWO, way, (("a", "a"), None, ("", "c"))), False)
        self.same(holds(TWO, way, (("a", "b"), None, ("", "b"))), False)
        self.same(holds(TWO, way, (("a", "b"), None, ("", ""))), False)

    def test_widths_of_runs_and_of_none_are_not_looked_at(self):
        way = read_way(1, "way f(none, run 1 2, sign)")
        for none in ("", "ab"):
            for run in ("", "a", "abab"):
                self.same(holds(ONE, way, ((none,), (run,), ("a",))), True)

    def test_tests(self):
        way = read_way(1, "way f(sign, g, sign) when mate 0 2")
        for one in "ab":
            for other in "ab":
                self.same(holds(ONE, way, ((one,), None, (other,))), one != other)

    def test_tests_in_their_sequence(self):
        way = read_way(2, "way f(sign / sign) when up 0.1 0.0")
        self.same(holds(TWO, way, (("b", "a"),)), True)
        self.same(holds(TWO, way, (("a", "b"),)), False)

    def test_ref_twice(self):
        same = read_way(2, "way f(sign / none) when same 0.0 0.0")
        up = read_way(2, "way f(sign / none) when up 0.0 0.0")
        for sign in "abc":
            self.same(holds(TWO, same, ((sign, ""),)), True)
            self.same(holds(TWO, up, ((sign, ""),)), False)

    def test_all_tests_count(self):
        way = read_way(2, "way f(sign / sign, sign / none) when up 0.0 0.1 and same 1.0 0.0")
        for upper in "abc":
            for lower in "abc":
                for next_one in "abc":
                    dress = ((upper, lower), (next_one, ""))
                    held = upper + lower in ("ab", "bc") and next_one == upper
                    self.same(holds(book=TWO, way=way, dress=dress), held)

    def test_letters_and_tests(self):
        way = read_way(1, "way f(sign(a), sign) when mate 0 1")
        self.same(holds(ONE, way, (("a",), ("b",))), True)
        self.same(holds(ONE, way, (("b",), ("a",))), False)
        self.same(holds(ONE, way, (("a",), ("a",))), False)


class Plain(Case):
    def test_plain_dress(self):
        self.same(plain_dress(ONE, ONE.kinds("bond")), (("a",), None, ("a",), None))
        self.same(plain_dress(ONE, (("none",), ("run",), "lot")), (("",), ("",), None))
        self.same(plain_dress(TWO, (("sign", "none"), "lot", ("run", "sign"), ("none", "run"))),
                  (("a", ""), None, ("", "a"), ("", "")))

    def test_the_first_sign_of_the_program(self):
        book = Book(read("signs zab\nrows 1\nstart s\nlot s\nway f(sign(a))"))
        self.same(plain_dress(book=book, kinds=(("sign",),)), (("z",),))
