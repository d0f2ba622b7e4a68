"""[8], [59]: slopes; a consequence of [63]."""

from chooseonce.books import Book
from chooseonce.formreading import read_formula
from chooseonce.formvalues import number_value
from chooseonce.programs import read
from chooseonce.slopes import bends, high_of, low_of, slope_of
from tests.bookdrawing import BookDraw
from tests.helping import BEND, Case


def form(text):
    return read_formula("number", 1, text)[1][0]


class Slopes(Case):
    def test_as_the_document_prints_it(self):
        kinked = Book(read(BEND)).formula("k", "g")
        self.same((slope_of(kinked[1][1], 1), low_of(kinked, 1), high_of(kinked, 1), bends(kinked, 1)),
                  (-1, -1, 1, True))

    def test_slopes_of_forms(self):
        for text, wanted in (("x1", 1), ("-x1", -1), ("3 * x1 + 4", 3), ("2 * x1 - 5 * x1 + x0", -3),
                             ("x1 - x1", 0), ("0 * x1", 0), ("7", 0), ("x0 + x2", 0),
                             ("two[1] + len 1 - x1", -1), ("x1 + x1 + x1", 3)):
            self.same(slope_of(form(text), 1), wanted)
        self.same(slope_of(place=2, form=form("x1 - 4 * x2")), -4)

    def told(self, text, place, low, high, bent):
        formula = read_formula("number", 1, text)
        self.same((low_of(formula, place), high_of(formula, place), bends(formula, place)), (low, high, bent))

    def test_low_high_and_bends(self):
        self.told("x1 + 3", 1, 1, 1, False)
        self.told("-2 * x1", 1, -2, -2, False)
        self.told("5", 0, 0, 0, False)
        self.told("max(x1, -x1)", 1, -1, 1, True)
        self.told("min(x1, -x1)", 1, -1, 1, True)
        self.told("max(x1, 2 * x1, 0)", 1, 0, 2, False)
        self.told("min(-x1, 0, -3 * x1)", 1, -3, 0, False)
        self.told("min(2 * x0, x0 - x1, x1)", 0, 0, 2, False)
        self.told("min(2 * x0, x0 - x1, x1)", 1, -1, 1, True)
        self.told("max(x1, x1 + 1)", 1, 1, 1, False)

    def test_by_name(self):
        formula = read_formula("number", 1, "max(x1, -2 * x1)")
        self.same((low_of(place=1, formula=formula), high_of(place=1, formula=formula),
                   bends(place=1, formula=formula)), (-2, 1, True))

    def test_values_change_by_at_least_low_and_at_most_high(self):
        for seed in range(150):
            draw = BookDraw(seed)
            book = Book(draw.program())
            for maker in book.makers():
                kinds, places = book.kinds(maker), book.parts(maker)
                dress = tuple(None if kind == "lot" else tuple(book.signs[0] if word == "sign" else ""
                                                               for word in kind) for kind in kinds)
                for at, place in enumerate(places):
                    given = [draw.random.randint(-9, 9) for _ in places]
                    formula = book.formula("j", maker)
                    one = number_value(book, kinds, formula, dress, tuple(given))
                    given[at] += 1
                    step = number_value(book, kinds, formula, dress, tuple(given)) - one
                    self.assertTrue(low_of(formula, place) <= step <= high_of(formula, place))
