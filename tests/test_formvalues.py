"""[6], [32]: the values of forms and formulas; consequences of [34]."""

from chooseonce.books import Book
from chooseonce.formreading import read_formula
from chooseonce.formvalues import form_value, number_value, product_value, text_value
from chooseonce.programs import read
from tests.helping import FOLD, PAIR, Case

ONE, TWO = Book(read(FOLD)), Book(read(PAIR))
KINDS = (("sign", "run"), "lot", ("none", "sign"), "lot", "lot")
DRESS = (("a", "bcb"), None, ("", "b"), None, None)
GIVEN = (10, -7, 3)


def value(sort, text, given=GIVEN, dress=DRESS):
    tell = {"number": number_value, "product": product_value, "text": text_value}[sort]
    return tell(TWO, KINDS, read_formula(sort, 2, text), dress, given)


class Forms(Case):
    def test_atoms(self):
        for atom, told in (
            (("one",), 1), (("part", 1), 10), (("part", 3), -7), (("part", 4), 3),
            (("num", "gain", ((0, 0),)), 2), (("num", "gain", ((2, 1),)), -3),
            (("num", "cost", ((0, 0), (2, 1))), 0), (("num", "cost", ((2, 1), (0, 0))), -7),
            (("num", "cost", ((0, 0), (0, 0))), 5), (("len", (0, 1)), 3),
        ):
            for k in (1, -1, 0, 4):
                self.same(form_value(TWO, KINDS, ((k, atom),), DRESS, GIVEN), k * told)

    def test_sums(self):
        form = ((2, ("part", 1)), (-3, ("part", 3)), (1, ("part", 1)), (-5, ("one",)))
        self.same(form_value(dress=DRESS, given=GIVEN, form=form, kinds=KINDS, book=TWO),
                  20 + 21 + 10 - 5)

    def test_numbers_without_an_entry(self):
        book = Book(read(PAIR.replace("a 2 b -3 c 0", "b -3").replace(" ab 0 ba -7", "")))
        for name, refs, told in (("gain", ((0, 0),), -1), ("gain", ((2, 1),), -3),
                                 ("cost", ((0, 0), (2, 1)), 5)):
            form = ((1, ("num", name, refs)),)
            self.same(form_value(book, KINDS, form, DRESS, GIVEN), told)

    def test_integers_of_any_size(self):
        form = ((10 ** 30, ("part", 1)), (-1, ("part", 3)))
        given = (10 ** 3000, 10 ** 3999, 0)
        self.assertEqual(form_value(TWO, KINDS, form, DRESS, given), 10 ** 3030 - 10 ** 3999)

    def test_without_parts(self):
        self.same(form_value(ONE, (("run",),), ((3, ("len", (0, 0))),), (("abab",),), ()), 12)


class Numbers(Case):
    def test_one(self):
        self.same(value("number", "x1 - x3 + 2 * x4 - 1"), 10 + 7 + 6 - 1)

    def test_min_and_max(self):
        self.same(value("number", "min(x1, x3, x4)"), -7)
        self.same(value("number", "max(x1, x3, x4)"), 10)
        self.same(value("number", "min(x1, x4)"), 3)
        self.same(value("number", "max(x3, x4)"), 3)
        self.same(value("number", "max(-x1, -x3, 0)"), 7)
        self.same(value("number", "min(len 0.1, gain[0.0] + x1)"), 3)

    def test_by_name(self):
        formula = ("one", (((1, ("one",)),),))
        self.same(number_value(given=(), dress=(("",),), formula=formula, kinds=(("none",),),
                               book=ONE), 1)


class Products(Case):
    def test_as_the_document_prints_it(self):
        kinds = ("lot", ("run",), "lot")
        formula = ((5, (), (0, 2, 2)), (-1, (), ()))
        self.same(product_value(ONE, kinds, formula, (None, ("",), None), (4, -2)), 79)

    def test_factors(self):
        for text, told in (
            ("7", 7), ("x1", 10), ("-x3", 7), ("2 * x1 * x4", 60), ("x3 * x3", 49),
            ("x4 * x3 * x1", -210), ("x3 * x3 * x3", -343), ("gain[0.0] * gain[2.1] * x4", -18),
            ("-cost[2.1, 0.0]", 7), ("3 * gain[0.0] * gain[0.0]", 12), ("0 * x1", 0),
            ("x1 - x3 + 2 * gain[0.0] - 1", 10 + 7 + 4 - 1), ("cost[0.0, 2.1] * x1 + 5", 5),
        ):
            self.same(value("product", text), told)

    def test_by_name(self):
        self.same(product_value(given=(), dress=(("",),), formula=((3, (), ()),), kinds=(("none",),),
                                book=ONE), 3)


class Texts(Case):
    def test_items(self):
        given = ("<1>", "", "x")
        for text, told in (
            ("", ""), ('"a b"', "a b"), ('""', ""), ("x1", "<1>"), ("x4 x3 x1 x4", "x<1>x"),
            ("at 0.0 at 0.1 at 2.0 at 2.1", "abcbb"), ('at 0.1 "-" x1 "-" at 0.1', "bcb-<1>-bcb"),
        ):
            self.same(value("text", text, given), told)

    def test_by_name(self):
        self.same(text_value(given=(), dress=(("",),), formula=(), kinds=(("none",),), book=ONE), "")


class Consequences(Case):
    def test_other_texts_say_nothing(self):
        for sort, text, given in (("number", "gain[0.0] + x1", GIVEN), ("product", "x1", GIVEN),
                                  ("text", "at 0.0 x1", ("u", "v", "w"))):
            told = value(sort, text, given)
            for other in ((("a", ""), None, ("c", "c"), None, None),
                          (("a", "ccc"), None, ("", "a"), None, None)):
                self.same(value(sort, text, given, other), told)
