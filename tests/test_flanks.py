"""[66]: flanks of number formulas."""

from chooseonce.books import Book
from chooseonce.dresses import plain_dress
from chooseonce.flanks import flank_of
from chooseonce.formreading import read_formula
from chooseonce.formvalues import number_value
from chooseonce.programs import read
from chooseonce.slopes import high_of, low_of
from tests.bookdrawing import BookDraw
from tests.helping import BEND, Case

BENDS = Book(read(BEND))
KINDS = (("sign",), "lot", ("run",), "lot")


class Flanks(Case):
    def look(self, book, kinds, formula, place, dress):
        for side, slope in (("low", low_of(formula, place)), ("high", high_of(formula, place))):
            told = flank_of(book, kinds, formula, place, dress, side)
            self.assertIs(type(told), tuple)
            x, other = told
            self.same(other, x + 1)
            turn = 1 if x >= 0 else -1
            for far in [*range(12), 10 ** 6, 10 ** 15]:
                y = x + turn * far
                step = (self.value(book, kinds, formula, place, dress, y + 1)
                        - self.value(book, kinds, formula, place, dress, y))
                self.same(step, slope)

    def value(self, book, kinds, formula, place, dress, number):
        places = [at for at, kind in enumerate(kinds) if kind == "lot"]
        return number_value(book, kinds, formula, dress, tuple(number if at == place else 0 for at in places))

    def test_as_the_document_prints_it(self):
        kinds, kinked, dress = BENDS.kinds("f"), BENDS.formula("k", "g"), (("a",), None)
        x, y = flank_of(BENDS, kinds, kinked, 1, dress, "low")
        self.same(number_value(BENDS, kinds, kinked, dress, (y,)) - number_value(BENDS, kinds, kinked, dress, (x,)), -1)
        self.look(BENDS, kinds, kinked, 1, dress)

    def test_all_kinds_of_formulas(self):
        for text in (
            "7", "x1", "-3 * x1 + 4", "max(x1, -x1)", "min(x1, -x1)", "max(x1 - 50, -50 - x1)",
            "min(40 - x1, x1 - 9, 3)", "max(5, x1, 2 * x1 - 7)", "min(x3, x1 - x3, 2 * x1)",
            "max(two[0] + x1, 2 * len 2 - x1)", "max(0 * x1, 0)", "max(-x1, -x1 - 3)", "min(2 * x1, 2 * x1 + 9)",
        ):
            formula = read_formula("number", 1, text)
            for sign in "ab":
                self.look(BENDS, KINDS, formula, 1, ((sign,), None, ("",), None))
                self.look(BENDS, KINDS, formula, 3, ((sign,), None, ("abba",), None))

    def test_forms_that_cross_far_out_and_great_slopes(self):
        far = 10 ** 12 - 1
        for text in (f"max(x1, {far} - x1)", f"min({far} * x1 - {far}, {far} - x1)", f"max({far}, x1 - {far}, -x1)",
                     f"min({far} * x1, {far} + {far} * x1 - x1)", f"max({far} - {far} * x1, x1 - {far})",
                     f"max(x1 + {far}, 2 * x1 - {far})", f"min(x1 + {far}, 2 * x1 - {far})"):
            self.look(BENDS, KINDS, read_formula("number", 1, text), 1, (("a",), None, ("",), None))

    def test_by_name(self):
        told = flank_of(side="high", dress=(("a",), None), place=1, formula=BENDS.formula("j", "f"),
                        kinds=BENDS.kinds("f"), book=BENDS)
        self.same(told[1] - told[0], 1)
        self.assertGreaterEqual(told[0], 0)

    def test_drawn_formulas(self):
        for seed in range(120):
            book = Book(BookDraw(seed).program())
            for maker in book.makers():
                for place in book.parts(maker):
                    dress = plain_dress(book, book.kinds(maker))
                    self.look(book, book.kinds(maker), book.formula("k", maker), place, dress)
