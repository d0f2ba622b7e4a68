"""[8], [62]: which asks are blind; consequences of [63] stand in test_faults."""

from chooseonce.blinds import is_blind
from chooseonce.books import Book
from chooseonce.programs import read
from tests.helping import BEND, Case
from tests.test_faults import book_of

BENDS = Book(read(BEND))


class Blinds(Case):
    def told(self, ask, formulas, *wanted):
        """wanted tell of 1 and of 3."""
        book = book_of(**formulas)
        self.same(tuple(is_blind(book, ask, "f", place) for place in (1, 3)), wanted)

    def test_as_the_document_prints_it(self):
        self.same((is_blind(BENDS, ("names", "t"), "f", 1), is_blind(BENDS, ("least", "j"), "f", 1)), (True, False))
        self.same(is_blind(place=1, maker="f", ask=("names", "t"), book=BENDS), True)

    def test_least_greatest_and_best_of_one(self):
        for ask in (("least", "j"), ("greatest", "j"), ("best", 1, "j")):
            self.told(ask, {"j": "x1 + 4"}, False, True)
            self.told(ask, {"j": "max(x1, 3)"}, False, True)
            self.told(ask, {"j": "min(x3 - x3, 0)"}, True, True)

    def test_other_best_ends_within_spread_and_first_never(self):
        for ask in (("best", 2, "j"), ("best", 4, "j"), ("ends", 1, "j"), ("within", 0, "j"), ("spread", "j"),
                    ("spread", "o"), ("first",)):
            self.told(ask, {"j": "4", "o": "x1 * x3"}, False, False)
            self.told(ask, {"j": "x1 - x1", "o": "0"}, False, False)

    def test_total(self):
        ask = ("total", "o")
        self.told(ask, {"o": "x1 * x3"}, False, False)
        self.told(ask, {"o": "0"}, True, True)
        self.told(ask, {"o": "x1 * x3 - x3 * x1"}, True, True)
        # Nothing is left for the sign a alone.
        self.told(ask, {"o": "two[0] * x1 * x3 - 2 * x1 * x3"}, False, False)
        self.told(ask, {"o": "two[0] * two[0] * x1 * x3 - 2 * two[0] * x1 * x3"}, True, True)
        # Something is left for unlike signs at the two places alone.
        self.told(ask, {"o": "two[0] * x1 * x3 - two[2] * x1 * x3"}, False, False)
        self.told(ask, {"o": "duo[0, 2] * x1 * x3 - x1 * x3"}, False, False)
        self.told(ask, {"o": "duo[0, 0] * x1 * x3 - x1 * x3"}, True, True)

    def test_names(self):
        self.told(("names", "z"), {"z": 'at 0 x3 "x1"'}, True, False)
        self.told(("names", "z"), {"z": "x1 x1"}, False, True)
        self.told(("names", "z"), {"z": ""}, True, True)

    def test_each(self):
        formulas = {"j": "x1", "k": "x3", "n": "x1 - x1", "z": "x1", "y": "at 0"}
        self.told(("each", "n", ("least", "j")), formulas, False, True)
        self.told(("each", "k", ("least", "j")), formulas, False, False)
        self.told(("each", "y", ("least", "j")), formulas, False, True)
        self.told(("each", "z", ("least", "k")), formulas, False, False)
        self.told(("each", "z", ("least", "n")), formulas, False, True)
        self.told(("each", "z", ("spread", "n")), formulas, False, False)
        self.told(("each", "y", ("each", "j", ("names", "z"))), formulas, False, True)
        for formula in ("max(x1, 0)", "min(0, -x1)", "max(x1, -x1)", "-x1"):
            self.told(("each", "j", ("names", "y")), {"j": formula, "y": ""}, False, True)

    def test_both_sides(self):
        formulas = {"j": "x1", "k": "x3", "n": "0", "z": "x1", "y": ""}
        self.told(("beside", ("least", "j"), ("greatest", "k")), formulas, False, False)
        self.told(("beside", ("least", "j"), ("names", "z")), formulas, False, True)
        self.told(("beside", ("names", "z"), ("names", "y")), formulas, False, True)
        self.told(("beside", ("names", "y"), ("first",)), formulas, False, False)
        self.told(("against", ("least", "j"), ("greatest", "k")), formulas, False, False)
        self.told(("against", ("least", "j"), ("greatest", "n")), formulas, False, True)
        self.told(("against", ("least", "n"), ("greatest", "k")), formulas, True, False)
        self.told(("then", ("least", "j"), ("names", "z")), formulas, False, True)
        self.told(("then", ("least", "n"), ("names", "y")), formulas, True, True)
        self.told(("then", ("least", "k"), ("beside", ("names", "y"), ("greatest", "j"))), formulas, False, False)
