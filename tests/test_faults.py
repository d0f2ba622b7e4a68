"""[8], [61]: faults; a consequence of [63]."""

from itertools import product

from chooseonce.answers import answer_to
from chooseonce.blinds import is_blind
from chooseonce.books import Book
from chooseonce.faults import fault_at
from chooseonce.nodevalues import node_value
from chooseonce.programs import read
from tests.helping import BEND, Case
from tests.test_makes import drawn_nodes

BENDS = Book(read(BEND))


def book_of(**formulas):
    """A book with a maker f with parts at 1 and 3, and one formula for it by each judge."""
    text = ("signs ab\nrows 1\nnumbers two 1 else 0 a 2\nnumbers duo 2 else 1 ab 0\nstart s\nlot s\n"
            "way f(sign, s, sign, s)\nway e(none)\n")
    for judge, formula in formulas.items():
        sort = {"o": "product", "p": "product", "z": "text", "y": "text"}.get(judge[0], "number")
        text += f"judge {judge} {sort}\nfor f {formula}\nfor e {'' if sort == 'text' else 0}\n"
    return Book(read(text))


class Faults(Case):
    def told(self, ask, formulas, *wanted):
        """wanted are the faults at 1 and at 3."""
        book = book_of(**formulas)
        self.same(tuple(fault_at(book, ask, "f", place) for place in (1, 3)), wanted)

    def test_as_the_document_prints_it(self):
        self.same((fault_at(BENDS, ("least", "k"), "g", 1), fault_at(BENDS, ("ends", 2, "k"), "g", 1)),
                  ("falls", "bends"))
        self.same((fault_at(BENDS, ("within", 0, "j"), "f", 1), fault_at(BENDS, ("total", "p"), "f", 1)),
                  ("flat", "mixed"))
        self.same(fault_at(BENDS, ("then", ("least", "j"), ("spread", "k")), "f", 1), "tie")

    def test_by_name(self):
        self.same(fault_at(place=1, maker="g", ask=("least", "k"), book=BENDS), "falls")

    def test_least_greatest_and_best(self):
        for ask in (("least", "j"), ("greatest", "j"), ("best", 1, "j"), ("best", 4, "j")):
            self.told(ask, {"j": "x1 + x3"}, None, None)
            self.told(ask, {"j": "x1 - x3"}, None, "falls")
            self.told(ask, {"j": "5 - 2 * x1"}, "falls", None)
            self.told(ask, {"j": "max(x1, -x1 + x3)"}, "falls", None)
            self.told(ask, {"j": "min(0, x1, x3)"}, None, None)
            self.told(ask, {"j": "x1 - x1 - x3 + 2 * x3"}, None, None)

    def test_ends(self):
        for ask in (("ends", 1, "j"), ("ends", 4, "j")):
            self.told(ask, {"j": "-x1 + x3"}, None, None)
            self.told(ask, {"j": "max(x1, -x1)"}, "bends", None)
            self.told(ask, {"j": "min(x1 - x3, 2 * x3)"}, None, "bends")
            self.told(ask, {"j": "min(0, -x1, x3)"}, None, None)

    def test_within(self):
        for ask in (("within", 0, "j"), ("within", 99, "j")):
            self.told(ask, {"j": "x1 + 2 * x3"}, None, None)
            self.told(ask, {"j": "x1 - x3"}, None, "falls")
            self.told(ask, {"j": "3 + x3"}, "flat", None)
            self.told(ask, {"j": "max(0, x1, x3)"}, "flat", "flat")
            self.told(ask, {"j": "min(x1, x1 - x3)"}, None, "falls")
            self.told(ask, {"j": "x1 - x1 + x3"}, "flat", None)

    def test_total(self):
        ask = ("total", "o")
        self.told(ask, {"o": "x1 * x3"}, None, None)
        self.told(ask, {"o": "-3 * x1 * x3 + two[0] * x3 * x1"}, None, None)
        self.told(ask, {"o": "x1"}, None, "mixed")
        self.told(ask, {"o": "4"}, "mixed", "mixed")
        self.told(ask, {"o": "x1 * x1 * x3"}, "mixed", None)
        self.told(ask, {"o": "x1 * x3 * x3 * x3"}, None, "mixed")
        self.told(ask, {"o": "x1 * x3 + 1"}, "mixed", "mixed")
        self.told(ask, {"o": "0 * x1 * x1"}, None, None)

    def test_total_of_products_that_cancel_one_another(self):
        ask = ("total", "o")
        self.told(ask, {"o": "x1 * x3 + x3 - 2 * x3 + x3"}, None, None)
        self.told(ask, {"o": "x1 - x1"}, None, None)
        # For the sign a they cancel, for b they do not.
        self.told(ask, {"o": "two[0] * x3 - 2 * x3 + x1 * x3"}, "mixed", None)
        self.told(ask, {"o": "two[0] * x3 + x1 * x3"}, "mixed", None)
        # The same sign place twice: they cancel for both signs.
        self.told(ask, {"o": "x1 * x3 + two[0] * two[0] - 2 * two[0]"}, None, None)
        self.told(ask, {"o": "x1 * x3 + two[0] * two[0] - 4 * two[0]"}, "mixed", "mixed")
        # Two sign places: they cancel for alike signs alone.
        self.told(ask, {"o": "x1 * x3 + two[0] * x1 - two[2] * x1"}, None, "mixed")
        self.told(ask, {"o": "x1 * x3 + two[0] * two[2] * x1 - two[2] * two[0] * x1"}, None, None)
        # For just one of the four pairs of signs there is something else.
        self.told(ask, {"o": "x1 * x3 + duo[0, 2] - 1"}, "mixed", "mixed")
        self.told(ask, {"o": "x1 * x3 + duo[0, 2] * x1 - x1"}, None, "mixed")
        self.told(ask, {"o": "x1 * x3 + duo[0, 0] * x1 - x1"}, None, None)

    def test_spread_names_and_first_have_none(self):
        formulas = {"j": "max(-x1, x3)", "o": "x1 * x1 + 1", "z": '"a"'}
        for ask in (("spread", "j"), ("spread", "o"), ("names", "z"), ("first",)):
            self.told(ask, formulas, None, None)

    def test_each(self):
        formulas = {"j": "-x1", "k": "x1 - x3", "o": "x1", "z": ""}
        self.told(("each", "j", ("least", "k")), formulas, None, "falls")
        self.told(("each", "z", ("total", "o")), formulas, None, "mixed")
        self.told(("each", "j", ("spread", "k")), formulas, None, None)
        self.told(("each", "z", ("each", "j", ("within", 3, "k"))), formulas, None, "falls")

    def test_beside(self):
        formulas = {"j": "x3", "k": "-x1 - x3", "o": "x3"}
        self.told(("beside", ("within", 1, "j"), ("greatest", "k")), formulas, "flat", "falls")
        self.told(("beside", ("total", "o"), ("greatest", "k")), formulas, "mixed", "falls")
        self.told(("beside", ("spread", "k"), ("within", 1, "j")), formulas, "flat", None)
        self.told(("beside", ("first",), ("spread", "k")), formulas, None, None)

    def test_against(self):
        formulas = {"j": "x1 - x3", "k": "x3 - 2 * x1", "m": "x1 + x3"}
        self.told(("against", ("least", "j"), ("greatest", "m")), formulas, None, "falls")
        self.told(("against", ("greatest", "m"), ("least", "k")), formulas, "falls", None)
        self.told(("against", ("least", "j"), ("least", "k")), formulas, "falls", "falls")

    def test_then(self):
        formulas = {"j": "x1 - x3", "k": "x1 + x3", "m": "x3", "n": "max(0, x1)", "o": "x3", "z": "x3"}
        self.told(("then", ("least", "j"), ("total", "o")), formulas, "mixed", "falls")
        self.told(("then", ("greatest", "k"), ("total", "o")), formulas, "mixed", None)
        self.told(("then", ("greatest", "k"), ("least", "j")), formulas, None, "falls")
        self.told(("then", ("greatest", "k"), ("spread", "j")), formulas, None, None)
        # Low is 0 at 1 by m, at both by n.
        self.told(("then", ("least", "m"), ("spread", "j")), formulas, "tie", None)
        self.told(("then", ("least", "m"), ("names", "z")), formulas, None, None)
        self.told(("then", ("least", "n"), ("names", "z")), formulas, None, "tie")
        self.told(("then", ("least", "n"), ("greatest", "m")), formulas, None, "tie")
        self.told(("then", ("least", "n"), ("least", "j")), formulas, "tie", "falls")
        self.told(("then", ("least", "n"), ("first",)), formulas, "tie", "tie")
        self.told(("then", ("greatest", "m"), ("best", 1, "n")), formulas, "tie", None)

    def test_within_other_asks(self):
        formulas = {"j": "x1 + x3", "k": "x1", "m": "-x3", "z": "x1"}
        self.told(("each", "z", ("then", ("least", "k"), ("spread", "j"))), formulas, None, "tie")
        self.told(("beside", ("then", ("least", "k"), ("spread", "j")), ("least", "m")), formulas, None, "tie")
        self.told(("beside", ("least", "m"), ("then", ("least", "k"), ("spread", "j"))), formulas, None, "falls")
        self.told(("then", ("least", "j"), ("then", ("least", "k"), ("names", "z"))), formulas, None, None)
        self.told(("then", ("least", "j"), ("then", ("least", "k"), ("first",))), formulas, None, "tie")

    def test_without_a_fault_alike_answers_have_alike_images(self):
        pairs, blind = 0, 0
        for draw, book, ask, maker, dress, bags, head in drawn_nodes(500):
            for at, place in enumerate(book.parts(maker)):
                if fault_at(book, ask, maker, place) is None:
                    images = {}
                    others = [(draw.value(ask),) for _ in book.parts(maker)]
                    for _ in range(12):
                        bag = draw.bag(ask, 1, 4)
                        many = product(*(others[:at] + [bag] + others[at + 1:]))
                        image = answer_to(ask, tuple(node_value(book, ask, maker, dress, given, head)
                                                     for given in many))
                        pairs += answer_to(ask, bag) in images
                        self.assertEqual(images.setdefault(answer_to(ask, bag), image), image)
                    if is_blind(book, ask, maker, place):
                        self.assertEqual(len({repr(image) for image in images.values()}), 1)
                        blind += 1
        self.assertGreater(pairs, 300)
        self.assertGreater(blind, 20)
