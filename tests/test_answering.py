"""[80], [81]: once by early choosing, strictly or by a last step; (G6), (G7)."""

from unittest import mock

from chooseonce.answering import answer, asked, strictly
from chooseonce.bags import once
from chooseonce.books import Book
from chooseonce.borders import border_of, passes
from chooseonce.errors import BadRows, NoName, Refused, TooLong
from chooseonce.planning import price_of
from chooseonce.programs import read
from chooseonce.shapes import Shape
from chooseonce.shownwrong import shown_wrong
from chooseonce.tables import early
from tests.askdrawing import AskDraw
from tests.helping import BEND, EDGE, FOLD, TWIN, Case
from tests.reckoning import answer as answer_by_rules
from tests.reckoning import whole_bag
from tests.shapedrawing import ringless
from tests.test_choosing import ASKS, MORE
from tests.test_mending import DRAWN, FALLS
from tests.test_prices import shape_of
from tests.test_spots import UNMADE

BOND = ("greatest", "worth")
FALLING = FOLD.replace("1 + x1", "1 - x1")


class Answers(Case):
    def test_ordinary(self):
        fold = shape_of(FOLD)
        self.same(answer(fold, ("then", BOND, ("total", "ways")), ("abab",)), (2, 2))
        self.same(strictly(fold, ("then", BOND, ("total", "ways")), ("abab",)), (2, 2))
        self.same(asked(fold, "all", ("aba",)), ((0, ("...",)), (1, ("().", ".()"))))
        self.same(asked(fold, "most", ("",)), 0)

    def test_one_that_does_not_pass(self):
        falling = shape_of(FALLING)
        self.raises(Refused("bond", 1, "falls"), strictly, falling, BOND, ("abab",))
        self.same(answer(falling, BOND, ("abab",)), 2)
        self.same(asked(falling, "most", ("abab",)), 2)
        # The border is that of an ask within.
        self.raises(Refused("bond", 1, "falls"), strictly, falling, ("beside", ("first",), BOND), ("abab",))
        # Refused though the border is not used: what strictly tells does not hang on what is live.
        bend = shape_of(BEND)
        self.raises(Refused("g", 1, "falls"), strictly, bend, ("least", "k"), ("ab",))
        self.same(early(bend, ("least", "k"), ("ab",)), once(bend, ("least", "k"), ("ab",)))

    def test_asks_that_pass(self):
        shape = shape_of(MORE)
        for ask in ASKS:
            for row in ("", "b", "ab", "abab", "babba"):
                wanted = once(shape, ask, (row,))
                self.same(answer(shape, ask, (row,)), wanted)
                self.same(strictly(shape, ask, (row,)), wanted)

    def test_asks_that_do_not_pass(self):
        shape = shape_of(FALLS)
        for ask in (("least", "k"), ("greatest", "k"), ("least", "d"), ("best", 2, "d"), ("best", 3, "k"),
                    ("ends", 1, "k"), ("within", 0, "j"), ("within", 2, "k"), ("total", "p"),
                    ("then", ("least", "d"), ("names", "t")), ("then", ("greatest", "j"), ("total", "p")),
                    ("each", "t", ("least", "k")), ("each", "k", ("then", ("least", "d"), ("spread", "j"))),
                    ("beside", ("total", "p"), ("within", 1, "j")), ("against", ("least", "k"), ("greatest", "d")),
                    ("beside", ("first",), ("against", ("least", "d"), ("least", "j")))):
            self.assertFalse(passes(shape.book, ask))
            for row in ("", "a", "ba", "aab"):
                self.same(answer(shape, ask, (row,)), once(shape, ask, (row,)))
                border = border_of(shape.book, ask)
                self.raises(Refused(*border[1:]), strictly, shape, ask, (row,))

    def test_two_rows(self):
        twin = shape_of(TWIN)
        for name in twin.book.asks():
            for rows in (("", ""), ("a", "b"), ("ab", "ab"), ("aab", "ab")):
                self.same(asked(twin, name, rows), once(twin, twin.book.ask(name), rows))

    def test_drawn_programs_and_asks(self):
        mended = compared = 0
        for seed, (draw, book) in enumerate(ringless(range(200))):
            shape, rows = Shape(book), draw.drawn_rows()
            for number in range(3):
                ask = AskDraw(3 * seed + number, DRAWN).ask(number)
                wanted = answer_by_rules(ask, whole_bag(book.program, ask, rows))
                self.same(answer(shape, ask, rows), wanted)
                compared += wanted is not None
                if passes(book, ask):
                    self.same(strictly(shape, ask, rows), wanted)
                else:
                    mended += wanted is not None
                    self.raises(Refused(*border_of(book, ask)[1:]), strictly, shape, ask, rows)
        self.assertGreater(compared, 150)
        self.assertGreater(mended, 60)

    def test_shown_wrong(self):
        book = Book(read(BEND))
        program, rows = shown_wrong(book, ("within", 0, "j"))
        shape = Shape(Book(program))
        self.assertNotEqual(once(shape, ("within", 0, "j"), rows), early(shape, ("within", 0, "j"), rows))
        self.same(answer(shape, ("within", 0, "j"), rows), once(shape, ("within", 0, "j"), rows))

    def test_a_start_that_is_not_made(self):
        unmade = shape_of(UNMADE + "\nask one = first")
        self.same((answer(unmade, ("first",), ("aa",)), strictly(unmade, ("first",), ("aa",)),
                   asked(unmade, "one", ("aa",))), (None, None, None))
        self.same(answer(shape_of(EDGE), ("first",), ("",)), None)


class Wrong(Case):
    def test_rows_ahead_of_all_else(self):
        falling = shape_of(FALLING)
        for rows, error in ((("abc",), BadRows(0)), ((), BadRows(-1)), ("ab", BadRows(-1)), ((None,), BadRows(0))):
            self.raises(error, answer, falling, BOND, rows)
            self.raises(error, strictly, falling, BOND, rows)
            self.raises(error, asked, falling, "nothing", rows)

    def test_names_and_refusals_ahead_of_prices(self):
        text = FALLING.replace("way free(sign, fold)", "way free(sign, fold, fold, fold)")
        long = ("ab" * 30,)
        shape = shape_of(text)
        price = price_of(shape, (60,), ("fold",))
        self.assertGreater(price, 400000)
        self.raises(NoName("nothing"), asked, shape, "nothing", long)
        self.raises(NoName("fold"), asked, shape, "fold", ("ab",))
        self.raises(Refused("bond", 1, "falls"), strictly, shape, BOND, long)
        self.raises(TooLong(price), answer, shape, BOND, long)
        self.raises(TooLong(price), asked, shape, "most", long)
        self.raises(TooLong(price), strictly, shape, ("names", "dots"), long)

    def test_prices_by_the_limit(self):
        fold = shape_of(FOLD)
        for function, told in ((answer, BOND), (strictly, BOND), (asked, "most")):
            with mock.patch("chooseonce.planning.MOST_LOOKS", 25):
                self.same(function(fold, told, ("abab",)), 2)
            with mock.patch("chooseonce.planning.MOST_LOOKS", 24):
                self.raises(TooLong(25), function, fold, told, ("abab",))
