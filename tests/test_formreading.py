"""[14], [16]: formulas."""

from chooseonce.errors import BadText
from chooseonce.formreading import formula_from, read_formula
from chooseonce.readers import LineReader
from tests.helping import Case


def one(*items):
    return ("one", (tuple(items),))


class Formulas(Case):
    def refused(self, sort, rows, text, place):
        self.raises(BadText(0, place), read_formula, sort, rows, text)

    def test_as_the_document_prints_it(self):
        self.same(
            read_formula("product", 2, "x1 * w[0.0, 2.1] * x0 - 2"),
            ((1, (("w", ((0, 0), (2, 1))),), (0, 1)), (-2, (), ())),
        )

    def test_forms(self):
        for text, formula in (
            ("0", one((0, ("one",)))),
            ("7", one((7, ("one",)))),
            ("-7", one((-7, ("one",)))),
            ("- 0", one((0, ("one",)))),
            ("x0", one((1, ("part", 0)))),
            ("-x9", one((-1, ("part", 9)))),
            ("3 * x2", one((3, ("part", 2)))),
            ("-3 * x2", one((-3, ("part", 2)))),
            ("1 * x2", one((1, ("part", 2)))),
            ("len 12", one((1, ("len", (12, 0))))),
            ("w[3]", one((1, ("num", "w", ((3, 0),))))),
            ("2 * w[3, 0, 3]", one((2, ("num", "w", ((3, 0), (0, 0), (3, 0)))))),
            ("1 + x1 - 2 * len 0 - x1 + 4 - 0 * w[1]", one(
                (1, ("one",)), (1, ("part", 1)), (-2, ("len", (0, 0))), (-1, ("part", 1)),
                (4, ("one",)), (0, ("num", "w", ((1, 0),))),
            )),
            ("x12[0]", one((1, ("num", "x12", ((0, 0),))))),
        ):
            self.same(read_formula("number", 1, text), formula)

    def test_forms_on_two_rows(self):
        self.same(
            read_formula("number", 2, "len 1.0 - w[0.1, 2.0]"),
            one((1, ("len", (1, 0))), (-1, ("num", "w", ((0, 1), (2, 0))))),
        )

    def test_two_and_three_forms(self):
        self.same(
            read_formula("number", 1, "min(x1, -2)"),
            ("min", (((1, ("part", 1)),), ((-2, ("one",)),))),
        )
        self.same(
            read_formula("number", 1, "max(x1 + 1, x1, 0)"),
            ("max", (
                ((1, ("part", 1)), (1, ("one",))), ((1, ("part", 1)),), ((0, ("one",)),),
            )),
        )

    def test_products(self):
        for text, formula in (
            ("1", ((1, (), ()),)),
            ("-4", ((-4, (), ()),)),
            ("x1", ((1, (), (1,)),)),
            ("-x1", ((-1, (), (1,)),)),
            ("2 * x1", ((2, (), (1,)),)),
            ("- 2 * x1 * w[0]", ((-2, (("w", ((0, 0),)),), (1,)),)),
            ("x3 * x1 * x3 * x0", ((1, (), (0, 1, 3, 3)),)),
            ("v[1] * x1 * w[0, 1] * v[1]", (
                (1, (("v", ((1, 0),)), ("w", ((0, 0), (1, 0))), ("v", ((1, 0),))), (1,)),
            )),
            ("x1 - 1 + 0 * x1 - w[0]", (
                (1, (), (1,)), (-1, (), ()), (0, (), (1,)), (-1, (("w", ((0, 0),)),), ()),
            )),
        ):
            self.same(read_formula("product", 1, text), formula)

    def test_texts(self):
        for text, formula in (
            ("", ()),
            ("   ", ()),
            ('"a b"', (("word", "a b"),)),
            ('"" x0 at 3 "x1"x1', (
                ("word", ""), ("part", 0), ("at", (3, 0)), ("word", "x1"), ("part", 1),
            )),
        ):
            self.same(read_formula("text", 1, text), formula)
        self.same(read_formula("text", 2, "at 0.1 x1 at 2.0"), (
            ("at", (0, 1)), ("part", 1), ("at", (2, 0)),
        ))

    def test_blanks_say_nothing(self):
        self.same(
            read_formula("number", 2, "  max(2*x1-w [ 0 . 0,1 .1 ] ,3)  "),
            read_formula("number", 2, "max(2 * x1 - w[0.0, 1.1], 3)"),
        )

    def test_by_name(self):
        self.same(read_formula(text="1", rows=1, sort="product"), ((1, (), ()),))

    def test_the_first_word_with_which_a_number_cannot_go_on(self):
        for text, place in (
            ("", 0), (" ", 1), ("+ 1", 0), ("*", 0), ("-", 1), ("- -1", 2), ("1 +", 3),
            ("1 2", 2), ("1 + - 2", 4), ("2 *", 3), ("2 * 3", 4), ("2 * -x1", 4), ("x1 * 2", 3),
            ("x1 * x2", 3), ("x1 x2", 3), ("len", 3), ("len x1", 4), ("2 * len a", 8),
            ("w", 1), ("w + 1", 2), ("w[", 2), ("w[]", 2), ("w[x1]", 2), ("w[0", 3), ("w[0,]", 4),
            ("w[0 1]", 4), ("w[0.0]", 3), ("w[0)", 3), ("x12", 3), ("lot[0]", 0), ('"a"', 0),
            ("at 0", 0), ("(x1)", 0), ("min", 3), ("min x1", 4), ("min()", 4), ("min(x1)", 6),
            ("min(x1,)", 7), ("min(x1, 2", 9), ("min(x1, 2, 3, 4)", 12), ("min(1, 2,)", 9),
            ("max(1, 2) + 1", 10), ("max(1, 2) x1", 10), ("1 + min(1, 2)", 4), ("-min(1, 2)", 1),
            ("min(min(1, 2), 3)", 4), ("max(1; 2)", 5), ('"min"(1, 2)', 0), ('min "("', 4),
        ):
            self.refused("number", 1, text, place)

    def test_the_first_word_with_which_a_product_cannot_go_on(self):
        for text, place in (
            ("", 0), ("-", 1), ("+ x1", 0), ("2 * 3", 4), ("x1 * 2", 5), ("x1 *", 4), ("x1 x2", 3),
            ("len 0", 0), ("x1 * len 0", 5), ("min(1, 2)", 0), ("w", 1), ("w[0] w[0]", 5),
            ("2 x1", 2), ("x1 + ", 5), ("x1 - - x1", 5), ('"a"', 0), ("w[0", 3), ("x1 ^ 2", 3),
        ):
            self.refused("product", 1, text, place)

    def test_the_first_word_with_which_a_text_cannot_go_on(self):
        for text, place in (
            ("a", 0), ("1", 0), ('"a" + x1', 4), ("at", 2), ("at x1", 3), ("at 0 0", 5), ("x1, x2", 2),
            ("at 0.1", 4), ("len 0", 0), ("x12", 0), ("-x1", 0),
        ):
            self.refused("text", 1, text, place)

    def test_refs_on_two_rows(self):
        self.refused("number", 2, "len 0", 5)
        self.refused("number", 2, "w[0.2]", 4)
        self.refused("number", 2, "w[0.0, 1]", 8)
        self.refused("product", 2, "w[0]", 3)
        self.refused("text", 2, "at 0", 4)

    def test_formula_from_ends_with_its_line(self):
        reader = LineReader(5, "for f x1 - 1")
        reader.take()
        reader.take()
        self.same(formula_from(reader, "number", 1), one((1, ("part", 1)), (-1, ("one",))))
        self.same(reader.look(), ("end", None))
        self.raises(BadText(5, 3), formula_from, LineReader(5, "x1 x1"), "number", 1)
        self.raises(BadText(5, 3), formula_from, LineReader(5, "x1 x1"), "product", 1)
        self.raises(BadText(5, 3), formula_from, LineReader(5, "x1 1"), "text", 1)
        self.same(formula_from(rows=1, sort="text", reader=LineReader(5, "")), ())
