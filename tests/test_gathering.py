"""[8], [56]: plus; (G5), a consequence of [58]."""

import random

from chooseonce.answers import answer_to
from chooseonce.gathering import gathered, plus_of
from tests.askdrawing import TREES, AskDraw
from tests.helping import Case
from tests.reckoning import plus

LEAST, MOST = ("least", "j"), ("greatest", "j")


class Plus(Case):
    def told(self, ask, one, other, wanted):
        self.same(plus_of(ask, one, other), wanted)
        self.same(plus_of(ask, other, one), wanted)
        self.same(gathered(ask, (one, other)), wanted)
        self.same(gathered(ask, (None, one, None, other, None)), wanted)

    def test_as_the_document_prints_it(self):
        self.same(plus_of(("then", ("greatest", "j"), ("total", "k")), (2, 3), (2, 4)), (2, 7))
        self.same(gathered(("each", "j", ("total", "k")), (((5, 1),), None, ((0, 2), (5, 3)))), ((0, 2), (5, 4)))

    def test_none(self):
        for seed in range(60):
            draw = AskDraw(seed)
            ask = draw.ask(2)
            told = answer_to(ask, draw.bag(ask, 1, 5))
            self.told(ask, told, None, told)
            self.same(plus_of(ask, None, None), None)
            self.same(gathered(ask, ()), None)
            self.same(gathered(ask, (None, None, None)), None)
            self.same(gathered(ask, (told,)), told)

    def test_an_answer_of_nought_is_not_none(self):
        self.told(LEAST, 0, 3, 0)
        self.told(MOST, 0, -3, 0)
        self.told(("total", "j"), 0, 0, 0)

    def test_by_name(self):
        self.same(plus_of(other=3, one=2, ask=("total", "j")), 5)
        self.same(gathered(answers=(1, 2), ask=("total", "j")), 3)

    def test_basic_asks(self):
        self.told(LEAST, 2, -3, -3)
        self.told(MOST, 2, -3, 2)
        self.told(("best", 2, "j"), (1, 3), (1, 2), (1, 1))
        self.told(("best", 4, "j"), (1, 3), (1,), (1, 1, 3))
        self.told(("ends", 1, "j"), (1, 5), (2, 7), (1, 7))
        self.told(("ends", 2, "j"), (1, 5), (2, 7), (1, 2, 5, 7))
        self.told(("within", 2, "j"), (1, 3), (0, 1, 2), (0, 1, 1, 2))
        self.told(("within", 2, "j"), (4, 5), (0, 1), (0, 1))
        self.told(("spread", "j"), ((1, 2), (3, 1)), ((0, 1), (3, 4)), ((0, 1), (1, 2), (3, 5)))
        self.told(("total", "j"), 5, -7, -2)
        self.told(("names", "j"), ("", "b"), ("a", "b"), ("", "a", "b"))
        self.told(("first",), TREES[1], TREES[3], TREES[1])

    def test_against(self):
        self.told(("against", LEAST, ("greatest", "k")), ((0, 1), (2, 3)), ((1, 3),), ((0, 1), (1, 3)))
        self.told(("against", MOST, ("greatest", "k")), ((3, 0), (2, 3)), ((2, 4), (1, 5)), ((3, 0), (2, 4), (1, 5)))

    def test_then(self):
        ask = ("then", LEAST, ("names", "k"))
        self.told(ask, (1, ("a",)), (2, ("b",)), (1, ("a",)))
        self.told(ask, (2, ("a",)), (2, ("b",)), (2, ("a", "b")))
        ask = ("then", MOST, ("names", "k"))
        self.told(ask, (1, ("a",)), (2, ("b",)), (2, ("b",)))
        self.told(ask, (-1, ("a",)), (-1, ("a",)), (-1, ("a",)))

    def test_each(self):
        ask = ("each", "z", ("spread", "k"))
        self.told(ask, (("a", ((1, 1),)),), (("b", ((1, 1),)),), (("a", ((1, 1),)), ("b", ((1, 1),))))
        self.told(ask, (("", ((1, 1),)), ("b", ((0, 2),))), (("b", ((0, 1), (1, 1))),),
                  (("", ((1, 1),)), ("b", ((0, 3), (1, 1)))))
        self.told(("each", "j", LEAST), ((-1, 3), (10, 4)), ((9, 5), (10, 3)), ((-1, 3), (9, 5), (10, 3)))

    def test_beside(self):
        self.told(("beside", LEAST, ("total", "k")), (3, 4), (2, 5), (2, 9))

    def test_two_products_deep(self):
        ask = ("then", MOST, ("each", "z", ("total", "o")))
        self.told(ask, (1, (("a", 2),)), (1, (("a", 3), ("b", 1))), (1, (("a", 5), ("b", 1))))
        ask = ("each", "z", ("then", LEAST, ("best", 2, "k")))
        self.told(ask, (("a", (1, (5, 6))),), (("a", (1, (5,))), ("b", (0, (1,)))),
                  (("a", (1, (5, 5))), ("b", (0, (1,)))))
        ask = ("beside", ("against", LEAST, ("least", "k")), ("beside", ("first",), ("spread", "m")))
        self.told(ask, (((1, 5),), (TREES[1], ((0, 1),))), (((0, 6),), (TREES[0], ((0, 1),))),
                  (((0, 6), (1, 5)), (TREES[0], ((0, 2),))))

    def test_values_that_stand_very_often(self):
        many = 10 ** 30
        self.told(("spread", "j"), ((0, many), (1, 1)), ((0, 5), (2, many)), ((0, many + 5), (1, 1), (2, many)))

    def test_drawn_bags(self):
        for seed in range(600):
            draw = AskDraw(seed)
            ask = draw.ask(seed % 4)
            bags = [draw.bag(ask, 0, 5) for _ in range(4)]
            told = [answer_to(ask, bag) for bag in bags]
            self.same(plus_of(ask, told[0], told[1]), answer_to(ask, bags[0] + bags[1]))
            self.same(plus_of(ask, told[0], told[1]), plus(ask, told[0], told[1]))
            wanted = answer_to(ask, bags[0] + bags[1] + bags[2] + bags[3])
            for _ in range(3):
                self.same(gathered(ask, tuple(told)), wanted)
                random.Random(seed).shuffle(told)
