"""[68], [69]: mended asks, and the last step from their answers."""

from chooseonce.answers import answer_to
from chooseonce.bags import bag_of
from chooseonce.books import Book
from chooseonce.borders import passes
from chooseonce.mending import last_step, mended
from chooseonce.programs import read
from chooseonce.shapes import Shape
from chooseonce.stretches import whole_of
from tests.askdrawing import AskDraw
from tests.bookdrawing import BookDraw
from tests.helping import BEND, FOLD, Case
from tests.shapedrawing import ringless

LEAST_J, LEAST_K, GREATEST_K = ("least", "j"), ("least", "k"), ("greatest", "k")
SPREAD_J, SPREAD_K = ("spread", "j"), ("spread", "k")

# By d values fall, but do not bend.
FALLS = BEND + "\njudge d number\nfor f 1 - x1\nfor g -2 * x1\nfor e 0"

# The judges of drawn books, with their sorts.
DRAWN = {"j": "number", "k": "number", "o": "product", "z": "text"}


class Mended(Case):
    def setUp(self):
        self.book = Book(read(FALLS))

    def mends(self, ask, wanted):
        self.same(mended(self.book, ask), wanted)
        self.assertTrue(passes(self.book, wanted))
        self.same(mended(self.book, wanted), wanted)

    def test_its_own(self):
        for ask in (LEAST_J, ("best", 2, "j"), ("ends", 2, "d"), SPREAD_K, ("names", "t"), ("first",),
                    ("beside", LEAST_J, ("first",)), ("each", "k", ("names", "t")), ("spread", "p")):
            self.mends(ask, ask)

    def test_basic(self):
        self.mends(("least", "d"), ("ends", 1, "d"))
        self.mends(("greatest", "d"), ("ends", 1, "d"))
        self.mends(("best", 3, "d"), ("ends", 3, "d"))
        self.mends(LEAST_K, SPREAD_K)
        self.mends(GREATEST_K, SPREAD_K)
        self.mends(("best", 3, "k"), SPREAD_K)
        self.mends(("ends", 1, "k"), SPREAD_K)
        self.mends(("within", 2, "k"), SPREAD_K)
        self.mends(("within", 2, "j"), SPREAD_J)
        self.mends(("within", 0, "d"), ("spread", "d"))
        self.mends(("total", "p"), ("spread", "p"))

    def test_put_together(self):
        self.mends(("then", GREATEST_K, ("names", "t")), ("each", "k", ("names", "t")))
        # The first side passes, but unlike values of a part tie.
        self.mends(("then", LEAST_J, SPREAD_K), ("each", "j", SPREAD_K))
        self.mends(("then", LEAST_J, ("total", "p")), ("each", "j", ("spread", "p")))
        self.mends(("then", LEAST_J, ("least", "d")), ("each", "j", ("ends", 1, "d")))
        self.mends(("each", "t", LEAST_K), ("each", "t", SPREAD_K))
        self.mends(("each", "t", ("best", 2, "d")), ("each", "t", ("ends", 2, "d")))
        self.mends(("beside", LEAST_J, LEAST_K), ("beside", LEAST_J, SPREAD_K))
        self.mends(("beside", ("total", "p"), ("first",)), ("beside", ("spread", "p"), ("first",)))
        self.mends(("against", LEAST_J, LEAST_K), ("each", "j", SPREAD_K))
        self.mends(("against", ("greatest", "d"), LEAST_J), ("each", "d", SPREAD_J))
        self.mends(("each", "t", ("then", LEAST_J, ("against", LEAST_K, ("least", "d")))),
                   ("each", "t", ("each", "j", ("each", "k", ("spread", "d")))))

    def test_drawn_asks_pass(self):
        for seed in range(300):
            book = Book(BookDraw(seed).program())
            ask = AskDraw(seed, DRAWN).ask(2)
            told = mended(book, ask)
            self.assertTrue(passes(book, told))
            self.same(mended(book, told), told)
            self.assertEqual(told == ask, passes(book, ask))


class Steps(Case):
    def setUp(self):
        self.book = Book(read(FALLS))

    def steps(self, ask, told, wanted):
        self.same(last_step(self.book, ask, told), wanted)

    def test_none(self):
        for ask in (LEAST_J, LEAST_K, ("then", LEAST_K, ("first",)), ("each", "t", ("total", "p")),
                    ("beside", LEAST_K, ("first",)), ("against", LEAST_K, LEAST_J)):
            self.assertIs(last_step(self.book, ask, None), None)

    def test_one_that_passes(self):
        self.steps(LEAST_J, 7, 7)
        self.steps(("best", 2, "j"), (7, 8), (7, 8))
        self.steps(("each", "k", ("names", "t")), ((1, ("a",)),), ((1, ("a",)),))

    def test_from_ends(self):
        self.steps(("least", "d"), (-4, 9), -4)
        self.steps(("greatest", "d"), (-4, 9), 9)
        self.steps(("greatest", "d"), (5,), 5)
        self.steps(("best", 2, "d"), (1, 2, 3, 4), (1, 2))
        self.steps(("best", 2, "d"), (1, 2, 3), (1, 2))
        self.steps(("best", 3, "d"), (1, 2), (1, 2))

    def test_from_a_spread(self):
        pairs = ((0, 1), (1, 5), (4, 2))
        self.steps(LEAST_K, pairs, 0)
        self.steps(GREATEST_K, pairs, 4)
        self.steps(("best", 2, "k"), ((0, 1), (1, 5)), (0, 1))
        self.steps(("best", 4, "k"), pairs, (0, 1, 1, 1))
        self.steps(("best", 4, "k"), ((3, 2),), (3, 3))
        self.steps(("ends", 2, "k"), pairs, (0, 1, 4, 4))
        self.steps(("ends", 4, "k"), pairs, (0, 1, 1, 1, 1, 1, 4, 4))
        self.steps(("ends", 3, "k"), ((0, 1), (1, 5)), (0, 1, 1, 1, 1, 1))
        self.steps(("ends", 1, "k"), ((2, 1),), (2,))
        self.steps(("ends", 3, "k"), ((2, 9),), (2, 2, 2, 2, 2, 2))
        self.steps(("within", 1, "k"), pairs, (0, 1, 1, 1, 1, 1))
        self.steps(("within", 0, "j"), pairs, (0,))
        self.steps(("within", 9, "j"), ((2, 2), (11, 1), (12, 1)), (2, 2, 11))
        self.steps(("total", "p"), ((-2, 3), (0, 9), (5, 4)), 14)

    def test_values_that_stand_very_often(self):
        often = 10 ** 30
        self.steps(("best", 2, "k"), ((0, often),), (0, 0))
        self.steps(("ends", 2, "k"), ((0, often), (1, 1)), (0, 0, 0, 1))
        self.steps(("within", 0, "k"), ((0, 2), (1, often)), (0, 0))
        self.steps(("total", "p"), ((3, often), (4, 1)), 3 * often + 4)
        self.steps(GREATEST_K, ((0, often), (5, often)), 5)

    def test_put_together(self):
        self.steps(("then", GREATEST_K, ("names", "t")), ((0, ("", "b")), (3, ("a",))), (3, ("a",)))
        self.steps(("then", LEAST_K, ("names", "t")), ((0, ("", "b")), (3, ("a",))), (0, ("", "b")))
        self.steps(("then", LEAST_J, ("total", "p")), ((1, ((2, 3), (4, 1))), (5, ((9, 9),))), (1, 10))
        self.steps(("each", "t", LEAST_K), (("a", ((2, 3),)), ("b", ((4, 1), (5, 1)))), (("a", 2), ("b", 4)))
        self.steps(("beside", LEAST_J, LEAST_K), (8, ((2, 3), (4, 1))), (8, 2))
        self.steps(("beside", LEAST_K, ("best", 1, "j")), (((2, 3), (4, 1)), (8,)), (2, (8,)))
        keys = ((0, ((5, 1), (7, 2))), (1, ((5, 3),)), (2, ((3, 1), (9, 1))))
        self.steps(("against", LEAST_J, LEAST_K), keys, ((0, 5), (2, 3)))
        self.steps(("against", LEAST_J, GREATEST_K), keys, ((0, 7), (2, 9)))
        self.steps(("against", ("greatest", "d"), GREATEST_K), keys, ((2, 9),))
        self.steps(("against", ("greatest", "d"), LEAST_K), keys, ((2, 3),))

    def test_a_book_of_the_document(self):
        book = Book(read(BEND))
        self.same(mended(book, ("then", GREATEST_K, ("names", "t"))), ("each", "k", ("names", "t")))
        self.same(last_step(book, ("best", 2, "k"), ((0, 1), (1, 5))), (0, 1))
        book = Book(read(FOLD))
        for name in book.asks():
            self.same(mended(book, book.ask(name)), book.ask(name))

    def test_drawn_bags(self):
        unlike = 0
        for seed in range(600):
            book = Book(BookDraw(seed).program())
            draw = AskDraw(seed, DRAWN)
            ask = draw.ask(2)
            told = mended(book, ask)
            unlike += told != ask
            bag = draw.bag(ask, 0, 7)
            # The values by both asks are alike, only their answers are not.
            self.same(last_step(book, ask, answer_to(told, bag)), answer_to(ask, bag))
        self.assertGreater(unlike, 100)

    def test_bags_of_candidates(self):
        for seed, (draw, book) in enumerate(ringless(range(60))):
            shape, rows = Shape(book), draw.drawn_rows()
            stretch = whole_of([len(row) for row in rows])
            ask = AskDraw(seed, DRAWN).ask(2)
            told = mended(book, ask)
            bag = bag_of(shape, ask, rows, book.start, stretch)
            self.same(bag_of(shape, told, rows, book.start, stretch), bag)
            self.same(last_step(book, ask, answer_to(told, bag)), answer_to(ask, bag))
