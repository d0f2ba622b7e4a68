"""[88] to [90]: codes as texts."""

from chooseonce.codes import code_of
from chooseonce.codetexts import read_code, shown_code
from chooseonce.errors import BadText
from chooseonce.shapes import Shape
from tests.codedrawing import CodeDraw
from tests.helping import EDGE, FOLD, LOOPS, TWIN, Case
from tests.shapedrawing import ringless
from tests.test_events import LOOPED
from tests.test_prices import DOUBLE, THREE, shape_of


def sums(text):
    """The expression of an if."""
    return read_code("if " + text)[0][1]


class Shown(Case):
    def test_ordinary(self):
        self.same(shown_code((("for", "e0.1", ((-1, (("i0", 1), ("w", -2))),), ((0, ()), (0, (("n1", 0),))), ()),)),
                  "for e0.1 from -1 + i0 - 2 * w to 0, 0 * n1\n")
        self.same(shown_code(LOOPED), LOOPS + "\n")
        self.same(shown_code(()), "")

    def test_expressions(self):
        for expression, text in (
                ((0, ()), "0"), ((5, ()), "5"), ((-5, ()), "-5"), ((0, (("w", 1),)), "w"),
                ((0, (("w", -1),)), "-w"), ((0, (("w", 0),)), "0 * w"), ((0, (("w", -7),)), "-7 * w"),
                ((3, (("w", -1), ("w", 1), ("n0", 0), ("e1.10", 12))), "3 - w + w + 0 * n0 + 12 * e1.10"),
                ((-3, (("v0", 2), ("i1", -2))), "-3 + 2 * v0 - 2 * i1"), ((0, (("i0", 1), ("n1", -1))), "i0 - n1")):
            self.same(shown_code((("if", expression, ()),)), f"if {text}\n")
            self.same(sums(text), expression)

    def test_bodies(self):
        code = (("if", (1, ()), (("new", "s"), ("if", (2, ()), ()), ("look", "s", 10))), ("new", "t"))
        self.same(shown_code(code), "if 1\n  new s\n  if 2\n  look s 10\nnew t\n")


class Read(Case):
    def test_ordinary(self):
        self.same(read_code("if w - 1\n  new fold\nlook fold 2"),
                  (("if", (-1, (("w", 1),)), (("new", "fold"),)), ("look", "fold", 2)))
        self.same(read_code(LOOPS), LOOPED)
        for text in ("", "\n", "   \n\n "):
            self.same(read_code(text), ())

    def test_sums(self):
        for text, expression in (
                ("0", (0, ())), ("0 + 0 * w", (0, (("w", 0),))), ("1 * w - 1 * w", (0, (("w", 1), ("w", -1)))),
                ("2 + w - 5 + 10", (7, (("w", 1),))), ("- 3 * e0 . 1+w", (0, (("e0.1", -3), ("w", 1)))),
                ("w + w", (0, (("w", 1), ("w", 1)))), ("-4 - 4", (-8, ())), ("-n1", (0, (("n1", -1),))),
                ("7 * e1.12 - 3", (-3, (("e1.12", 7),))), ("-0", (0, ())),
                ("9" * 40 + " * w - " + "9" * 40, (-int("9" * 40), (("w", int("9" * 40)),)))):
            self.same(sums(text), expression)

    def test_names(self):
        # Names may be such words of this grammar as are not reserved.
        self.same(read_code("new new\nlook from 0\nnew w\nlook e0 3"),
                  (("new", "new"), ("look", "from", 0), ("new", "w"), ("look", "e0", 3)))

    def test_blanks(self):
        text = "\n  \nfor w from 0 to 1\n\n  if w\n   \n    new s\n  new s\nif 1\nnew t\nif 2\n  if 3\n    if 4\n"
        expression = lambda integer: (integer, ())
        self.same(read_code(text), (
            ("for", "w", (expression(0),), (expression(1),),
             (("if", (0, (("w", 1),)), (("new", "s"),)), ("new", "s"))),
            ("if", expression(1), ()), ("new", "t"),
            ("if", expression(2), (("if", expression(3), (("if", expression(4), ()),)),))))
        # Blanks between words, around commas and dots, and at the end.
        self.same(read_code("for  e0 .2 from 1 ,w to 0,n0  "),
                  (("for", "e0.2", ((1, ()), (0, (("w", 1),))), ((0, ()), (0, (("n0", 1),))), ()),))

    def test_there_and_back(self):
        for seed in range(300):
            code = CodeDraw(seed).code(3)
            self.same(read_code(shown_code(code)), code)
        for text in (FOLD, EDGE, DOUBLE, TWIN, THREE):
            code = code_of(shape_of(text))
            self.same(read_code(shown_code(code)), code)
        for _, book in ringless(range(60)):
            code = code_of(Shape(book))
            self.same(read_code(shown_code(code)), code)

    def test_deep(self):
        code = (("new", "s"),)
        for _ in range(80):
            code = (("if", (1, ()), code),)
        self.same(read_code(shown_code(code)), code)


class Wrong(Case):
    def wrong(self, text, line, at):
        self.raises(BadText(line, at), read_code, text)

    def test_blanks(self):
        self.wrong("new fold\n  new fold", 1, 2)
        self.wrong(" new s", 0, 1)
        self.wrong("  new s", 0, 2)
        for blanks, bad in ((0, False), (1, True), (2, False), (3, True), (4, True)):
            text = "if 1\n" + " " * blanks + "new s"
            if bad:
                self.wrong(text, 1, blanks)
            else:
                self.same(len(read_code(text)), 2 if blanks == 0 else 1)
        self.wrong("if 1\n  new s\n    new s", 2, 4)
        self.wrong("if 1\n  new s\n\n   new s", 3, 3)
        self.wrong("if 1\n  if 2\nnew s\n  new s", 3, 2)
        self.wrong("if 1\n  if 2\n      new s", 2, 6)

    def test_cut_then_blanks_then_words(self):
        self.wrong("   new S", 0, 7)
        self.wrong("   new and", 0, 3)
        self.wrong("new and", 0, 4)

    def test_words(self):
        for text, at in (
                ("s", 0), ("for", 3), ("for n0 from 0 to 1", 4), ("for n1 from 0 to 1", 4), ("for x from 0 to 1", 4),
                ("for e0 from 0 to 1", 7), ("for e0. from 0 to 1", 8), ("for e2.0 from 0 to 1", 4),
                ("for w.0 from 0 to 1", 5), ("for w 0 to 1", 6), ("for w from to 1", 11), ("for w from 0", 12),
                ("for w from 0 1", 13), ("for w from 0, to 1", 14), ("for w from 0 to", 15), ("for w from 0 to 1,", 18),
                ("for w from 0 to 1 2", 18), ("if", 2), ("if new", 3), ("if 1 w", 5), ("if 1 *", 6), ("if 1 * 2", 7),
                ("if 1 +", 6), ("if 1 + - 2", 7), ("if w * 2", 5), ("if - - w", 5), ("if 1, 2", 4), ("if (w)", 3),
                ("if v2", 3), ("if e0", 5), ("if e0.w", 6), ("if -", 4), ("new", 3), ("new 1", 4), ("new s 1", 6),
                ("new x1", 4), ("new for", 4), ("look s", 6), ("look s -1", 7), ("look s t", 7), ("look s 1 2", 9),
                ("look 1 1", 5), ("- new s", 0), ('"new" s', 0), ("fore w from 0 to 1", 0)):
            self.wrong(text, 0, at)
            self.wrong("\nif 1\n  " + text, 2, at + 2)

    def test_cuts(self):
        for text, at in (("if 01", 3), ("if 1a", 3), ("new s#", 5), ("if " + "9" * 41, 3), ("new " + "s" * 17, 4),
                         ("if e0.00", 6), ("new s\t", 5)):
            self.wrong(text, 0, at)
