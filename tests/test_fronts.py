"""[7], [52]: the answers by asks that set two values against each other."""

import random
from itertools import product

from chooseonce.fronts import kept_pairs
from tests.helping import Case
from tests.reckoning import against

SIDES = [("against", (one, "j"), (other, "k")) for one in ("least", "greatest")
         for other in ("least", "greatest")]


class Fronts(Case):
    def told(self, bag, *wanted):
        """For all four settings of the two sides, in the sequence of SIDES."""
        for ask, kept in zip(SIDES, wanted, strict=True):
            for one in (bag, bag[::-1], bag + bag):
                self.same(kept_pairs(ask, one), kept)

    def test_as_the_document_prints_it(self):
        ask = ("against", ("least", "j"), ("greatest", "k"))
        self.same(kept_pairs(ask, ((2, 3), (1, 1), (0, 1), (0, 1))), ((0, 1), (2, 3)))
        ask = ("against", ("greatest", "j"), ("least", "k"))
        self.same(kept_pairs(ask, ((2, 3), (5, 9), (5, 4))), ((5, 4), (2, 3)))

    def test_one_alone(self):
        self.told(((3, -2),), *[((3, -2),)] * 4)

    def test_a_pair_that_stands_several_times(self):
        self.told(((1, 1), (1, 1), (1, 1)), *[((1, 1),)] * 4)
        self.told(((1, 2), (2, 1), (1, 2)), ((1, 2), (2, 1)), ((1, 2),), ((2, 1),), ((2, 1), (1, 2)))

    def test_pairs_with_one_first_half(self):
        self.told(((4, 1), (4, 2), (4, 3)), ((4, 1),), ((4, 3),), ((4, 1),), ((4, 3),))
        self.told(((4, 1), (4, 2), (5, 0)), ((4, 1), (5, 0)), ((4, 2),), ((5, 0),), ((5, 0), (4, 2)))

    def test_pairs_with_one_second_half(self):
        self.told(((1, 7), (2, 7), (3, 7)), ((1, 7),), ((1, 7),), ((3, 7),), ((3, 7),))

    def test_all_are_kept(self):
        self.told(((0, 3), (1, 2), (2, 1)), ((0, 3), (1, 2), (2, 1)), ((0, 3),), ((2, 1),),
                  ((2, 1), (1, 2), (0, 3)))
        self.told(((0, 1), (1, 2), (2, 3)), ((0, 1),), ((0, 1), (1, 2), (2, 3)), ((2, 3), (1, 2), (0, 1)),
                  ((2, 3),))

    def test_numbers_below_0(self):
        self.told(((-5, -1), (-2, -4), (0, 0)), ((-5, -1), (-2, -4)), ((-5, -1), (0, 0)), ((0, 0), (-2, -4)),
                  ((0, 0),))

    def test_by_name(self):
        self.same(kept_pairs(pairs=((1, 2),), ask=SIDES[0]), ((1, 2),))

    def test_all_small_bags(self):
        pairs = list(product(range(3), repeat=2))
        for bag in product(pairs, repeat=3):
            for ask in SIDES:
                self.same(kept_pairs(ask, bag), against(ask, bag))

    def test_drawn_bags(self):
        draw = random.Random(2)
        for _ in range(200):
            bag = tuple((draw.randint(-6, 6), draw.randint(-6, 6)) for _ in range(draw.randint(1, 15)))
            for ask in SIDES:
                self.same(kept_pairs(ask, bag), against(ask, bag))
