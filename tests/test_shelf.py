"""[104], [105]: the shelf."""

import random
from itertools import combinations, product

from chooseonce.errors import BadRows
from chooseonce.shelf import distance, longest, nested
from tests.helping import Case


def distance_by_ways(one, other, gap, change):
    """The least cost over all ways of setting the one against the other."""
    if not one or not other:
        return gap * (len(one) + len(other))
    return min(gap + distance_by_ways(one[1:], other, gap, change), gap + distance_by_ways(one, other[1:], gap, change),
               (0 if one[0] == other[0] else change) + distance_by_ways(one[1:], other[1:], gap, change))


def kept_parts(text):
    """All strings that the text becomes if signs are taken out."""
    return {"".join(text[at] for at in places) for many in range(len(text) + 1)
            for places in combinations(range(len(text)), many)}


def nested_by_ways(words, text):
    """The greatest number over all sets of pairs."""
    pairs = [(i, j) for i, j in combinations(range(len(text)), 2) if text[i] + text[j] in words]

    def most(chosen, left):
        best = len(chosen)
        for at, (i, j) in enumerate(left):
            if all(not {i, j} & {k, m} and not i < k < j < m and not k < i < m < j for k, m in chosen):
                best = max(best, most(chosen + [(i, j)], left[at + 1:]))
        return best

    return most([], pairs)


class Distances(Case):
    def test_ordinary(self):
        self.same((distance("ab", "aab", "ba", 2, 3), longest("ab", "aab", "ba")), (5, 1))
        self.same(distance("abc", "abc", "abc", 5, 5), 0)
        self.same(distance("abc", "abc", "acc", 5, 3), 3)

    def test_edges(self):
        self.same([distance("a", *pair, 3, 4) for pair in (("", ""), ("aa", ""), ("", "aaa"))], [0, 6, 9])
        self.same([distance("ab", "ab", "ba", gap, change) for gap, change in
                   ((0, 0), (0, 5), (5, 0), (1, 1), (1, 9), (9, 1), (1, 2))], [0, 0, 0, 2, 2, 2, 2])
        # A change dearer than taking out and putting in.
        self.same((distance("ab", "a", "b", 2, 4), distance("ab", "a", "b", 2, 5), distance("ab", "a", "b", 2, 3)),
                  (4, 4, 3))
        large = 10 ** 12 - 1
        self.same(distance("ab", "a" * 24, "b" * 24, large, large), 24 * large)
        self.same(distance("ab", "a" * 24, "", large, 0), 24 * large)

    def test_drawn(self):
        for seed in range(120):
            chance = random.Random(seed)
            one, other = ["".join(chance.choice("abc") for _ in range(chance.randint(0, 5))) for _ in range(2)]
            gap, change = chance.randint(0, 4), chance.randint(0, 9)
            self.same(distance("abc", one, other, gap, change), distance_by_ways(one, other, gap, change))
            self.same(distance("abc", other, one, gap, change), distance("abc", one, other, gap, change))
            self.same(longest("abc", one, other), max(len(text) for text in kept_parts(one) & kept_parts(other)))
            self.same(distance("abc", one, other, 1, 2), len(one) + len(other) - 2 * longest("abc", one, other))

    def test_longest(self):
        self.same([longest("ab", *pair) for pair in (("", ""), ("a", ""), ("", "a"), ("ab", "ab"), ("ab", "ba"))],
                  [0, 0, 0, 2, 1])
        self.same(longest("abc", "abcabc", "cbacba"), 3)

    def test_wrong(self):
        for function, told in ((distance, (1, 1)), (longest, ())):
            self.raises(BadRows(0), function, "ab", "abc", "ab", *told)
            self.raises(BadRows(1), function, "ab", "ab", "A", *told)
            self.raises(BadRows(0), function, "ab", "c", "c", *told)
            self.raises(BadRows(0), function, "ab", None, 3, *told)
            self.raises(BadRows(1), function, "ab", "", ("a",), *told)


class Nested(Case):
    def test_ordinary(self):
        self.same((nested("abcd", ("ab", "cd"), "acbd"), nested("abcd", ("ab", "cd"), "acdb")), (1, 2))
        self.same([nested("ab", ("ab",), text) for text in ("", "a", "ab", "ba", "aabb", "abab", "abba")],
                  [0, 0, 1, 0, 2, 2, 1])
        self.same([nested("a", ("aa",), "a" * many) for many in range(6)], [0, 0, 1, 1, 2, 2])
        self.same(nested("ab", ("ab", "ba"), "ab" * 40), 40)
        self.same(nested("abc", ("ac",), "aabbcc"), 2)

    def test_words_have_a_sequence(self):
        self.same((nested("ab", ("ab",), "ba"), nested("ab", ("ba",), "ba")), (0, 1))

    def test_drawn(self):
        for seed in range(150):
            chance = random.Random(seed)
            words = tuple(chance.sample(["".join(pair) for pair in product("abc", repeat=2)], chance.randint(1, 4)))
            text = "".join(chance.choice("abc") for _ in range(chance.randint(0, 7)))
            self.same(nested("abc", words, text), nested_by_ways(words, text))

    def test_wrong(self):
        for text in ("abc", "A", None, 7, ("a",), ["a"]):
            self.raises(BadRows(0), nested, "ab", ("ab",), text)
