"""[7], [51]: the answers by basic asks."""

import random

from chooseonce.basicanswers import basic_answer
from tests.helping import Case
from tests.reckoning import answer

TREES = (("s", 0, ((0, 2),), ()), ("s", 0, ((1, 1),), ()), ("s", 1, ((0,),), (("t", 0, ((0,),), ()),)),
         ("s", 1, ((0,),), (("t", 1, ((0,),), ()),)))


class Basic(Case):
    def told(self, ask, bag, wanted):
        """The sequence of a bag says nothing."""
        for one in (bag, bag[::-1], bag[1:] + bag[:1]):
            self.same(basic_answer(ask, one), wanted)

    def test_as_the_document_prints_it(self):
        self.same((basic_answer(("ends", 1, "j"), (4, 1, 9, 4)), basic_answer(("ends", 1, "j"), (4,))),
                  ((1, 9), (4,)))
        self.same((basic_answer(("within", 2, "j"), (5, 3, 3, 6)), basic_answer(("spread", "j"), (5, 3, 5))),
                  ((3, 3, 5), ((3, 1), (5, 2))))

    def test_least_and_greatest(self):
        self.told(("least", "j"), (3, -1, 4, -1), -1)
        self.told(("greatest", "j"), (3, -1, 4, 4), 4)
        for how in ("least", "greatest"):
            self.told((how, "j"), (0,), 0)
            self.told((how, "any1"), (-7, -7, -7), -7)

    def test_best(self):
        bag = (5, 2, 9, 2, 2, 7)
        for n, wanted in ((1, (2,)), (2, (2, 2)), (3, (2, 2, 2)), (4, (2, 2, 2, 5)), (6, (2, 2, 2, 5, 7, 9)),
                          (9, (2, 2, 2, 5, 7, 9))):
            self.told(("best", n, "j"), bag, wanted)
        self.told(("best", 3, "j"), (1,), (1,))

    def test_ends(self):
        self.told(("ends", 1, "j"), (4, 4), (4, 4))
        self.told(("ends", 1, "j"), (4, 4, 4), (4, 4))
        self.told(("ends", 2, "j"), (8, 1, 3), (1, 3, 8))
        self.told(("ends", 2, "j"), (8, 1, 3, 1), (1, 1, 3, 8))
        self.told(("ends", 2, "j"), (8, 1, 3, 1, 5), (1, 1, 5, 8))
        self.told(("ends", 4, "j"), (2,), (2,))
        self.told(("ends", 3, "j"), tuple(range(-9, 10)), (-9, -8, -7, 7, 8, 9))

    def test_within(self):
        self.told(("within", 0, "j"), (3, 3, 4, 3), (3, 3, 3))
        self.told(("within", 1, "j"), (3, 3, 4, 5), (3, 3, 4))
        self.told(("within", 99, "j"), (-50, 49, 50, 0), (-50, 0, 49))
        self.told(("within", 0, "j"), (6,), (6,))

    def test_spread(self):
        self.told(("spread", "j"), (5, -2, 5, 0, 5, 0), ((-2, 1), (0, 2), (5, 3)))
        self.told(("spread", "j"), (0,), ((0, 1),))

    def test_total(self):
        self.told(("total", "j"), (5, -2, 5, 0), 8)
        self.told(("total", "j"), (-3,), -3)
        self.told(("total", "j"), (10 ** 60, 1, -10 ** 60), 1)

    def test_names(self):
        self.told(("names", "j"), ("b", "", "ab", "b", "a"), ("", "a", "ab", "b"))
        self.told(("names", "j"), ("x",), ("x",))
        self.told(("names", "j"), ("", ""), ("",))

    def test_first(self):
        self.told(("first",), TREES, TREES[0])
        self.told(("first",), TREES[1:], TREES[1])
        self.told(("first",), TREES[2:], TREES[2])
        self.told(("first",), TREES[3:], TREES[3])

    def test_by_name(self):
        self.same(basic_answer(bag=(2, 1), ask=("least", "j")), 1)

    def test_drawn_bags(self):
        draw = random.Random(1)
        for _ in range(300):
            bag = tuple(draw.randint(-4, 4) for _ in range(draw.randint(1, 9)))
            for ask in (("least", "j"), ("greatest", "j"), ("best", draw.randint(1, 4), "j"),
                        ("ends", draw.randint(1, 4), "j"), ("within", draw.randint(0, 3), "j"),
                        ("spread", "j"), ("total", "j")):
                self.told(ask, bag, answer(ask, bag))
            texts = tuple("ab"[number % 2] * (number % 3) for number in bag)
            self.told(("names", "j"), texts, answer(("names", "j"), texts))
