"""[7], [53]: answers to bags."""

from chooseonce.answers import answer_to
from tests.askdrawing import TREES, AskDraw
from tests.helping import Case
from tests.reckoning import answer

LEAST, MOST = ("least", "j"), ("greatest", "j")


class Answers(Case):
    def told(self, ask, bag, wanted):
        """The sequence of a bag says nothing."""
        for one in (bag, bag[::-1], bag[1:] + bag[:1]):
            self.same(answer_to(ask, one), wanted)

    def test_as_the_document_prints_it(self):
        self.same(answer_to(("then", ("least", "j"), ("best", 2, "k")), ((1, 0), (0, 7), (0, 5))), (0, (5, 7)))
        self.same(answer_to(("each", "j", ("total", "k")), ((3, 2), (0, 7), (3, 4))), ((0, 7), (3, 6)))

    def test_the_empty_bag(self):
        for seed in range(40):
            self.same(answer_to(AskDraw(seed).ask(2), ()), None)
        self.same(answer_to(bag=(), ask=("total", "j")), None)

    def test_basic_asks(self):
        bag = (4, -1, 4, 0)
        for ask, wanted in (
            (LEAST, -1), (MOST, 4), (("best", 2, "j"), (-1, 0)), (("ends", 1, "j"), (-1, 4)),
            (("within", 1, "j"), (-1, 0)), (("spread", "j"), ((-1, 1), (0, 1), (4, 2))), (("total", "j"), 7),
        ):
            self.told(ask, bag, wanted)
        self.told(("names", "j"), ("b", "a", "b"), ("a", "b"))
        self.told(("first",), TREES[1:], TREES[1])

    def test_then(self):
        bag = ((2, "b"), (1, "a"), (2, "a"), (2, "b"), (1, ""))
        self.told(("then", LEAST, ("names", "k")), bag, (1, ("", "a")))
        self.told(("then", MOST, ("names", "k")), bag, (2, ("a", "b")))
        self.told(("then", MOST, ("spread", "k")), ((2, 5), (2, 5), (1, 5)), (2, ((5, 2),)))
        self.told(("then", LEAST, ("total", "k")), ((3, 8),), (3, 8))

    def test_each(self):
        self.told(("each", "j", ("spread", "k")), (("b", 1), ("a", 1), ("b", 1), ("", 0)),
                  (("", ((0, 1),)), ("a", ((1, 1),)), ("b", ((1, 2),))))
        self.told(("each", "j", ("first",)), ((1, TREES[3]), (-1, TREES[2]), (1, TREES[0])),
                  ((-1, TREES[2]), (1, TREES[0])))
        self.told(("each", "j", LEAST), ((10, 0), (9, 1), (-10, 2)), ((-10, 2), (9, 1), (10, 0)))

    def test_beside(self):
        self.told(("beside", LEAST, ("total", "k")), ((1, 5), (3, -2), (1, 5)), (1, 8))
        self.told(("beside", ("spread", "j"), MOST), ((1, 5), (3, -2), (1, 5)), (((1, 2), (3, 1)), 5))

    def test_against(self):
        bag = ((2, 3), (1, 1), (0, 1), (0, 1))
        self.told(("against", LEAST, ("greatest", "k")), bag, ((0, 1), (2, 3)))
        self.told(("against", MOST, ("least", "k")), bag, ((2, 3), (1, 1)))

    def test_two_products_deep(self):
        bag = ((1, ("a", 5)), (1, ("b", 2)), (0, ("a", 1)), (1, ("a", 5)))
        self.told(("then", MOST, ("each", "k", ("total", "o"))), bag, (1, (("a", 10), ("b", 2))))
        self.told(("each", "j", ("beside", ("names", "k"), ("best", 1, "m"))), bag,
                  ((0, (("a",), (1,))), (1, (("a", "b"), (2,)))))
        bag = (((1, 5), 7), ((2, 5), 8), ((1, 6), 9))
        self.told(("beside", ("against", LEAST, ("least", "k")), ("ends", 1, "m")), bag, (((1, 5),), (7, 9)))
        self.told(("beside", ("then", LEAST, ("greatest", "k")), ("spread", "m")), bag,
                  ((1, 6), ((7, 1), (8, 1), (9, 1))))
        bag = ((0, (3, 1)), (0, (2, 2)), (1, (0, 0)), (0, (3, 2)))
        self.told(("then", LEAST, ("against", ("greatest", "k"), ("greatest", "m"))), bag, (0, ((3, 2),)))
        self.told(("then", LEAST, ("then", ("greatest", "k"), ("total", "o"))), bag, (0, (3, 3)))
        self.told(("each", "z", ("each", "j", MOST)), bag, ((0, ((2, 2), (3, 2))), (1, ((0, 0),))))

    def test_drawn_bags(self):
        for seed in range(600):
            draw = AskDraw(seed)
            ask = draw.ask(seed % 4)
            bag = draw.bag(ask, 0, 8)
            self.told(ask, bag, answer(ask, bag))
