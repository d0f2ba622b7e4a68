"""[82], [87]: the values of expressions, their sums and differences."""

import random

from chooseonce.expressions import added, taken_off, told_by
from tests.helping import Case

VARIABLES = ("n0", "n1", "w", "v0", "v1", "i0", "i1", "e0.0", "e0.1", "e0.10", "e1.2")


class Expressions(Case):
    def test_ordinary(self):
        self.same(told_by((3, (("n0", 1), ("w", -2))), {"n0": 5}), 8)
        one, other = (1, (("w", 1),)), (2, (("w", -1), ("i0", 1)))
        self.same((added(one, other), taken_off(one, other)),
                  ((3, (("i0", 1),)), (-1, (("i0", -1), ("w", 2)))))

    def test_values(self):
        self.same(told_by((-4, ()), {}), -4)
        self.same(told_by((0, (("w", 5),)), {}), 0)
        self.same(told_by((1, (("w", 5), ("v0", 0), ("w", -2))), {"w": 10, "v0": 7}), 31)
        self.same(told_by((0, (("e0.1", -1),)), {"e0.1": -6, "e0.10": 3}), 6)

    def test_sums(self):
        self.same(added((0, ()), (0, ())), (0, ()))
        # A variable twice in one, k 0, and variables out of sequence.
        twice = (1, (("w", 2), ("e0.1", 1), ("w", 3), ("n0", 0)))
        self.same(added(twice, (1, ())), (2, (("e0.1", 1), ("w", 5))))
        self.same(taken_off((1, ()), twice), (0, (("e0.1", -1), ("w", -5))))
        self.same(taken_off(twice, twice), (0, ()))
        self.same(added((0, (("w", 1), ("w", -1))), (0, ())), (0, ()))
        self.same(added((0, (("e0.2", 1),)), (0, (("e0.10", 1),))), (0, (("e0.10", 1), ("e0.2", 1))))

    def test_drawn(self):
        for seed in range(200):
            chance = random.Random(seed)
            one, other = [self.drawn(chance) for _ in range(2)]
            settings = {name: chance.randint(-9, 9) for name in chance.sample(VARIABLES, 6)}
            for told, sign in ((added(one, other), 1), (taken_off(one, other), -1)):
                self.same(told_by(told, settings), told_by(one, settings) + sign * told_by(other, settings))
                names = [name for name, _ in told[1]]
                self.same(names, sorted(set(names)))
                self.assertNotIn(0, [k for _, k in told[1]])

    def drawn(self, chance):
        return (chance.randint(-9, 9), tuple((chance.choice(VARIABLES), chance.randint(-2, 2))
                                             for _ in range(chance.randint(0, 6))))
