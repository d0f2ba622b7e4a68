"""[97], [98]: the numbers of candidates; (G12)."""

from chooseonce.bags import once
from chooseonce.errors import BadCandidate, BadNumber, BadRows
from chooseonce.listing import all_candidates, candidates_of
from chooseonce.numbers import Numbers
from chooseonce.shapes import Shape
from chooseonce.spots import spots_of
from chooseonce.standing import wrong_at
from chooseonce.stretches import whole_of
from chooseonce.trees import height_of, nodes_of, replaced_at
from tests.helping import EDGE, FOLD, TWIN, Case
from tests.shapedrawing import ringless
from tests.test_prices import DOUBLE, shape_of
from tests.test_spots import UNMADE


class Counted(Case):
    def look(self, shape, rows):
        """Compares with the list of all candidates, there and back."""
        numbers = Numbers(shape, rows)
        trees = all_candidates(shape, rows)
        self.same(numbers.many(), len(trees))
        self.same(tuple(numbers.nth(number) for number in range(len(trees))), trees)
        self.same([numbers.number_of(tree) for tree in trees], list(range(len(trees))))
        for number in (-1, len(trees), len(trees) + 10 ** 30, -10 ** 30):
            self.raises(BadNumber(number), numbers.nth, number)
        for spot in spots_of(shape, tuple(len(row) for row in rows)):
            self.same(numbers.many_at(spot), len(candidates_of(shape, rows, *spot)))
        return numbers

    def test_ordinary(self):
        numbers = Numbers(shape_of(FOLD), ("abab",))
        self.same((numbers.many(), numbers.many_at(("fold", ((1, 4),)))), (7, 3))
        self.same((numbers.nth(5)[:3], numbers.number_of(numbers.nth(5))), (("fold", 2, ((1, 2, 1, 0),)), 5))
        self.raises(BadCandidate((), "width"), numbers.number_of, ("fold", 0, ((4,),), ()))
        for text, rows in ((FOLD, ("abbaba",)), (FOLD, ("",)), (EDGE, ("abb",)), (EDGE, ("a",)), (DOUBLE, ("aaa",)),
                           (TWIN, ("ab", "ab")), (TWIN, ("aa", "b")), (TWIN, ("", ""))):
            self.look(shape_of(text), rows)

    def test_without_a_candidate(self):
        for text, rows in ((EDGE, ("",)), (EDGE, ("aabab",)), (UNMADE, ("aa",)), (UNMADE, ("",))):
            self.same(self.look(shape_of(text), rows).many(), 0)
        pair = shape_of("signs a\nrows 2\nstart s\nlot s\nway up(sign / none)\nway down(none / sign)")
        self.same((self.look(pair, ("a", "a")).many(), self.look(pair, ("", "a")).many()), (0, 1))
        self.raises(BadCandidate((), "cut"), Numbers(pair, ("a", "a")).number_of, ("s", 0, ((1,), (0,)), ()))
        self.raises(BadCandidate((), "lot"), Numbers(shape_of(UNMADE), ("a",)).number_of, ("t", 0, ((1,),), ()))

    def test_far_too_many_to_be_listed(self):
        fold = shape_of(FOLD)
        rows = ("ab" * 35,)
        numbers = Numbers(fold, rows)
        self.same(numbers.many(), once_by_entries(fold, rows))
        self.assertGreater(numbers.many(), 10 ** 25)
        for number in (0, 1, 12345678901234567890, numbers.many() // 2, numbers.many() - 1):
            tree = numbers.nth(number)
            self.same(numbers.number_of(tree), number)
            self.assertIs(wrong_at(fold.book, rows, tree, "fold", ((0, 70),)), None)
        self.raises(BadNumber(numbers.many()), numbers.nth, numbers.many())

    def test_high_trees(self):
        line = shape_of("signs a\nrows 1\nstart s\nlot s\nway f(sign, s)\nway e(none)")
        numbers = Numbers(line, ("a" * 140,))
        self.same((height_of(numbers.nth(0)), numbers.number_of(numbers.nth(0))), (141, 0))

    def test_two_objects_by_turns(self):
        fold = shape_of(FOLD)
        one, other = Numbers(fold, ("abab",)), Numbers(fold, ("ab",))
        self.same([one.many(), other.many(), one.many_at(("fold", ((0, 2),))), other.nth(1)[1], one.nth(6)[1]],
                  [7, 2, 2, 2, 2])
        self.same((other.number_of(other.nth(1)), one.number_of(one.nth(4))), (1, 4))
        self.same(Numbers(shape_of(TWIN), ("", "")).many(), 1)

    def test_torn_trees(self):
        shape, rows = shape_of(FOLD), ("abab",)
        numbers = Numbers(shape, rows)
        whole, seen = whole_of((4,)), set()
        for tree in all_candidates(shape, rows):
            for path, _, _ in nodes_of(shape.book, tree, whole):
                for other in (("fold", 0, ((0,),), ()), ("fold", 3, ((0,),), ()), ("fool", 0, ((0,),), ()),
                              ("fold", 2, ((1, 0, 1, 0),), ()), ("fold", 1, ((1, 0),), ()),
                              ("fold", 0, ((1,),), ()), ("fold", None, (), ())):
                    torn = replaced_at(tree, path, other)
                    wrong = wrong_at(shape.book, rows, torn, "fold", whole)
                    if wrong is None:
                        self.same(numbers.nth(numbers.number_of(torn)), torn)
                    else:
                        seen.add(wrong[1])
                        self.raises(BadCandidate(*wrong), numbers.number_of, torn)
        self.assertLessEqual({"lot", "way", "cut", "width", "parts"}, seen)

    def test_letters_and_tests_that_do_not_hold(self):
        stop = ("fold", 0, ((0,),), ())
        free = ("fold", 1, ((1, 0),), (stop,))
        numbers = Numbers(shape_of(FOLD), ("aab",))
        self.raises(BadCandidate((), "test"), numbers.number_of, ("fold", 2, ((1, 0, 1, 1),), (stop, free)))
        inner = ("fold", 2, ((1, 0, 1, 0),), (stop, stop))
        self.same(numbers.nth(numbers.number_of(("fold", 1, ((1, 2),), (inner,)))), ("fold", 1, ((1, 2),), (inner,)))
        self.raises(BadCandidate((0,), "test"), Numbers(shape_of(FOLD), ("abb",)).number_of,
                    ("fold", 1, ((1, 2),), (inner,)))
        numbers = Numbers(shape_of(EDGE), ("ba",))
        more = ("edge", 1, ((1, 0),), (("edge", 0, ((0,),), ()),))
        tree = ("whole", 0, ((1, 1),), (more, ("core", 0, ((1,),), ())))
        self.same((numbers.number_of(tree), numbers.nth(0)), (0, tree))
        self.raises(BadCandidate((1,), "sign"), Numbers(shape_of(EDGE), ("bb",)).number_of, tree)

    def test_drawn_programs(self):
        for draw, book in ringless(range(150)):
            shape, rows = Shape(book), draw.drawn_rows()
            numbers = self.look(shape, rows)
            if numbers.many():
                self.same(numbers.nth(0), once(shape, ("first",), rows))

    def test_rows(self):
        self.raises(BadRows(0), Numbers, shape_of(FOLD), ("abc",))
        self.raises(BadRows(-1), Numbers, shape_of(FOLD), ["ab"])
        self.raises(BadRows(1), Numbers, shape_of(TWIN), ("", 3))


def once_by_entries(shape, rows):
    """How many candidates there are, by width: all pairs ab and ba of the row are pairs of the program."""
    row, many = rows[0], {}
    for width in range(len(row) + 1):
        for start in range(len(row) - width + 1):
            end = start + width
            told = 1 if start == end else many[(start + 1, end)]
            for other in range(start + 1, end):
                if row[start] != row[other]:
                    told += many[(start + 1, other)] * many[(other + 1, end)]
            many[(start, end)] = told
    return many[(0, len(row))]
