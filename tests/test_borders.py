"""[8], [64]: borders; consequences of [65]."""

from chooseonce.askparts import all_asks
from chooseonce.books import Book
from chooseonce.borders import border_of, passes, used_border
from chooseonce.faults import fault_at
from chooseonce.programs import read
from chooseonce.shapes import Shape
from tests.askdrawing import AskDraw
from tests.helping import BEND, FOLD, Case
from tests.shapedrawing import ringless

BENDS = Book(read(BEND))

# f and g are live; h stands in a way that is not signed, i in one with a lot that is not made, and
# k in a lot that is not useful. The makers stand as f, h, g, i, e, k.
WAYS = """signs ab
rows 1
pairs up ab
start s
lot s
way f(s, sign, s)
way h(s, sign) when up 1 1
way g(sign, s)
way i(s, lost, sign)
way e(none)
lot lost
way i(lost, lost, sign)
lot spare
way k(spare, sign)
way e(none)
"""


def book_of(**formulas):
    """WAYS with judges, each with formulas for f, h, g, i and k, parted by semicolons."""
    text = WAYS
    for judge, told in formulas.items():
        sort = {"o": "product", "z": "text"}.get(judge[0], "number")
        text += f"judge {judge} {sort}\n"
        for maker, formula in zip("fhgik", told.split(";"), strict=True):
            text += f"for {maker} {formula}\n"
        text += "for e\n" if sort == "text" else "for e 0\n"
    return Book(read(text))


ALL = book_of(j="x0 + x2;x0;x1;x0 + x1;x0", k="x0 - x2;-x0;x1;-x1 + x0;-x0", m="x0 + x2;-x0;x1;x0 - x1;x0",
              n="x0;x0;0;x0;0", o="x0 * x2;x0;1;x0;x0", z="x0;x0;;x0;x0")


class Borders(Case):
    def told(self, ask, border, used, book=ALL):
        self.same(border_of(book, ask), border)
        self.same(passes(book, ask), border is None)
        self.same(used_border(Shape(book), ask), used)

    def test_as_the_document_prints_it(self):
        ask = ("beside", ("least", "j"), ("total", "p"))
        self.same(border_of(BENDS, ask), (("total", "p"), "f", 1, "mixed"))
        self.same((border_of(BENDS, ("least", "k")), used_border(Shape(BENDS), ("least", "k"))),
                  ((("least", "k"), "g", 1, "falls"), None))

    def test_by_name(self):
        self.same(border_of(ask=("least", "j"), book=BENDS), None)
        self.same(passes(ask=("least", "k"), book=BENDS), False)
        self.same(used_border(ask=("total", "p"), shape=Shape(BENDS)), (("total", "p"), "f", 1, "mixed"))

    def test_asks_of_the_document_pass(self):
        book = Book(read(FOLD))
        for name in book.asks():
            self.told(book.ask(name), None, None, book)

    def test_the_first_fault_by_makers_then_places(self):
        self.told(("least", "j"), None, None)
        self.told(("least", "k"), (("least", "k"), "f", 2, "falls"), (("least", "k"), "f", 2, "falls"))
        # h stands ahead of g and i; neither h nor i is used.
        self.told(("best", 2, "m"), (("best", 2, "m"), "h", 0, "falls"), None)
        self.told(("within", 0, "j"), (("within", 0, "j"), "k", 0, "flat"), None,
                  book_of(j="x0 + x2;x0;x1;x0 + x1;0"))
        self.told(("ends", 1, "j"), (("ends", 1, "j"), "i", 1, "bends"), None,
                  book_of(j="x0 + x2;x0;x1;max(x0, x1, -x1);0"))
        self.told(("within", 0, "n"), (("within", 0, "n"), "f", 2, "flat"), (("within", 0, "n"), "f", 2, "flat"))
        self.told(("total", "o"), (("total", "o"), "g", 1, "mixed"), (("total", "o"), "g", 1, "mixed"))
        self.told(("least", "j"), (("least", "j"), "f", 0, "falls"), (("least", "j"), "f", 0, "falls"),
                  book_of(j="-x0 - x2;x0;-x1;x0 + x1;x0"))

    def test_asks_without_a_border(self):
        for ask in (("first",), ("spread", "k"), ("names", "z"), ("ends", 2, "k"), ("spread", "o")):
            self.told(ask, None, None)

    def test_each(self):
        for key in ("n", "z"):
            self.told(("each", key, ("least", "k")), (("least", "k"), "f", 2, "falls"), (("least", "k"), "f", 2, "falls"))
            self.told(("each", key, ("greatest", "m")), (("greatest", "m"), "h", 0, "falls"), None)
            self.told(("each", key, ("least", "j")), None, None)

    def test_beside(self):
        first = (("total", "o"), "g", 1, "mixed")
        self.told(("beside", ("total", "o"), ("least", "k")), first, first)
        self.told(("beside", ("spread", "m"), ("total", "o")), first, first)
        # That of the first side, though that of the second one has an earlier maker.
        self.told(("beside", ("least", "m"), ("greatest", "k")), (("least", "m"), "h", 0, "falls"),
                  (("greatest", "k"), "f", 2, "falls"))
        self.told(("beside", ("first",), ("spread", "m")), None, None)

    def test_against(self):
        ask = ("against", ("least", "j"), ("greatest", "m"))
        self.told(ask, (ask, "h", 0, "falls"), None)
        ask = ("against", ("least", "k"), ("greatest", "m"))
        self.told(ask, (ask, "f", 2, "falls"), (ask, "f", 2, "falls"))
        self.told(("against", ("least", "j"), ("greatest", "n")), None, None)

    def test_then(self):
        self.told(("then", ("least", "m"), ("total", "o")), (("least", "m"), "h", 0, "falls"),
                  (("total", "o"), "g", 1, "mixed"))
        self.told(("then", ("least", "j"), ("total", "o")), (("total", "o"), "g", 1, "mixed"),
                  (("total", "o"), "g", 1, "mixed"))
        self.told(("then", ("least", "j"), ("spread", "m")), None, None)
        # Its own fault comes behind all of both sides.
        ask = ("then", ("least", "n"), ("spread", "j"))
        self.told(ask, (ask, "f", 2, "tie"), (ask, "f", 2, "tie"))
        self.told(("then", ("least", "n"), ("greatest", "m")), (("greatest", "m"), "h", 0, "falls"),
                  (("then", ("least", "n"), ("greatest", "m")), "f", 2, "tie"))
        ask = ("then", ("least", "n"), ("names", "z"))
        self.told(ask, (ask, "i", 1, "tie"), None, book_of(n="x0;x0;0;x0;0", z="x0;x0;;x0 x1;"))

    def test_within_other_asks(self):
        tied = ("then", ("least", "n"), ("spread", "j"))
        self.told(("each", "z", tied), (tied, "f", 2, "tie"), (tied, "f", 2, "tie"))
        self.told(("beside", ("first",), tied), (tied, "f", 2, "tie"), (tied, "f", 2, "tie"))
        self.told(("then", ("least", "j"), ("each", "z", ("within", 1, "n"))), (("within", 1, "n"), "f", 2, "flat"),
                  (("within", 1, "n"), "f", 2, "flat"))
        self.told(("then", ("greatest", "j"), tied[:1] + (("least", "n"), ("first",))),
                  (("then", ("least", "n"), ("first",)), "f", 2, "tie"),
                  (("then", ("least", "n"), ("first",)), "f", 2, "tie"))
        # No side of the outer one has a border here, but it has a fault of its own.
        ask = ("then", ("least", "n"), ("then", ("least", "j"), ("spread", "k")))
        self.told(ask, (ask, "f", 2, "tie"), (ask, "f", 2, "tie"))

    def test_a_maker_of_a_live_way_elsewhere_is_used(self):
        text = WAYS.replace("way e(none)\nlot lost", "way h(u, sign)\nway e(none)\nlot u\nway e(none)\nlot lost")
        text += "judge m number\nfor f x0 + x2\nfor h -x0\nfor g x1\nfor i -x0 + x1\nfor k x0\nfor e 0\n"
        self.told(("least", "m"), (("least", "m"), "h", 0, "falls"), (("least", "m"), "h", 0, "falls"),
                  Book(read(text)))

    def test_a_start_that_is_not_made(self):
        book = Book(read(BEND.replace("way e(none)", "way e(s)")))
        self.told(("least", "k"), (("least", "k"), "g", 1, "falls"), None, book)
        self.told(("total", "p"), (("total", "p"), "f", 1, "mixed"), None, book)

    def test_drawn_programs(self):
        borders = []
        for seed, (draw, book) in enumerate(ringless(range(200))):
            ask = AskDraw(seed, {"j": "number", "k": "number", "o": "product", "z": "text"}).ask(seed % 4)
            places = [(maker, place) for maker in book.makers() for place in book.parts(maker)]
            border, used = border_of(book, ask), used_border(Shape(book), ask)
            self.same(passes(book, ask), border is None)
            faults = [fault_at(book, ask, *told) for told in places]
            self.same(border is None, not any(faults))
            for one in all_asks(ask):
                if border is None:
                    self.same(border_of(book, one), None)
            for told in (border, used):
                if told is not None:
                    borders.append(told)
                    self.same(fault_at(book, *told[:3]), told[3])
                    self.assertIn(told[0], all_asks(ask))
            if border is None:
                self.same(used, None)
            elif border[0][0] == "then":
                self.same((passes(book, border[0][1]), passes(book, border[0][2])), (True, True))
        self.assertEqual({told[3] for told in borders}, {"falls", "bends", "flat", "mixed", "tie"})
