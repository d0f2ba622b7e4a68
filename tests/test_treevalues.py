"""[6], [35]: the values of candidates; consequences of [38]."""

from chooseonce.books import Book
from chooseonce.programs import read
from chooseonce.treevalues import judged, value
from tests.bookdrawing import BookDraw
from tests.helping import FOLD, PAIR, Case
from tests.listing import candidates, stretches_under
from tests.listing import judged as wanted_judged
from tests.listing import value as wanted_value

ONE, TWO = Book(read(FOLD)), Book(read(PAIR))
STOP = ("fold", 0, ((0,),), ())
TREE = ("fold", 2, ((1, 0, 1, 1),), (STOP, ("fold", 1, ((1, 0),), (STOP,))))


class Values(Case):
    def test_as_the_document_prints_it(self):
        ask = ("each", "worth", ("names", "dots"))
        self.same(value(ONE, ask, ("aabb",), TREE, ((1, 4),)), (1, "()."))

    def test_judged(self):
        self.same(judged(ONE, "worth", ("aabb",), TREE, ((1, 4),)), 1)
        self.same(judged(ONE, "ways", ("aabb",), TREE, ((1, 4),)), 1)
        self.same(judged(stretch=((1, 4),), candidate=TREE, rows=("aabb",), judge="dots", book=ONE),
                  "().")
        self.same(judged(ONE, "worth", ("",), STOP, ((0, 0),)), 0)

    def test_by_first_it_is_the_candidate(self):
        self.same(value(ONE, ("first",), ("aabb",), TREE, ((1, 4),)), TREE)
        self.same(value(stretch=((0, 0),), candidate=STOP, rows=("",), ask=("first",), book=ONE), STOP)

    def test_all_candidates_of_fold(self):
        found = candidates(ONE.program, ("abab",), "fold", ((0, 4),), 9)
        self.same([judged(ONE, "worth", ("abab",), tree, ((0, 4),)) for tree in found],
                  [0, 1, 1, 1, 2, 1, 2])
        self.same([judged(ONE, "dots", ("abab",), tree, ((0, 4),)) for tree in found],
                  ["....", "..()", ".().", "()..", "()()", "(..)", "(())"])

    def compare(self, book, rows, lot, stretch, found):
        for tree in found:
            for judge in book.judges():
                self.same(judged(book, judge, rows, tree, stretch),
                          wanted_judged(book.program, judge, rows, tree, stretch))
            for name in book.asks():
                self.same(value(book, book.ask(name), rows, tree, stretch),
                          wanted_value(book.program, book.ask(name), rows, tree, stretch))

    def test_pair(self):
        rows = ("abca", "bc")
        makers = set()
        for stretch in stretches_under(rows):
            for lot in TWO.lots():
                found = candidates(TWO.program, rows, lot, stretch, 4)
                makers.update(TWO.ways(lot)[tree[1]][0] for tree in found)
                self.compare(TWO, rows, lot, stretch, found)
        self.assertEqual(makers, set(TWO.makers()))

    def test_drawn_programs(self):
        compared = 0
        for seed in range(30):
            draw = BookDraw(seed)
            book = Book(draw.program())
            rows = tuple("".join(draw.one(draw.signs) for _ in range(3)) for _ in range(draw.rows))
            for lot in book.lots():
                stretch = draw.one(stretches_under(rows))
                found = candidates(book.program, rows, lot, stretch, 3)
                compared += len(found[:20])
                self.compare(book, rows, lot, stretch, found[:20])
        self.assertGreater(compared, 150)

    def test_they_hang_on_the_texts_under_the_stretch_alone(self):
        for rows, stretch in ((("abab",), ((0, 4),)), (("bbababa",), ((2, 6),))):
            found = candidates(ONE.program, rows, "fold", stretch, 9)
            self.same([value(ONE, ONE.ask("all"), rows, tree, stretch) for tree in found], [
                (0, "...."), (1, "..()"), (1, ".()."), (1, "().."), (2, "()()"), (1, "(..)"),
                (2, "(())"),
            ])

    def test_high_trees(self):
        for height in (150, 200):
            tree = STOP
            for width in range(1, height):
                tree = ("fold", 1, ((1, width - 1),), (tree,))
            rows, whole = ("ab" * 100,), ((0, height - 1),)
            self.same(judged(ONE, "dots", rows, tree, whole), "." * (height - 1))
            self.same(value(ONE, ONE.ask("how"), rows, tree, whole), (0, 1))
            self.assertTrue(value(ONE, ("first",), rows, tree, whole) == tree)

    def test_integers_of_any_size(self):
        text = ("signs a\nrows 1\nstart s\nlot s\nway f(s, s)\nway g(sign)\njudge p product\n"
                "for f x0 * x1\nfor g 999999999999\n")
        tree = ("s", 1, ((1,),), ())
        for half in (1, 2, 4, 8, 16, 32, 64):
            tree = ("s", 0, ((half, half),), (tree, tree))
        self.assertEqual(judged(Book(read(text)), "p", ("a" * 128,), tree, ((0, 128),)),
                         999999999999 ** 128)
