"""(G5), (G6): choosing early is choosing once, where an ask passes."""

from chooseonce.answers import answer_to
from chooseonce.bags import bag_of, once
from chooseonce.books import Book
from chooseonce.borders import passes, used_border
from chooseonce.gathering import gathered
from chooseonce.makes import make_of
from chooseonce.programs import read
from chooseonce.shapes import Shape
from tests.askdrawing import AskDraw
from tests.helping import BEND, FOLD, TWIN, Case
from tests.listing import stretches_under
from tests.reckoning import dress_at, early, entry, looks, may_stand
from tests.shapedrawing import ringless

# FOLD with more judges: all rise with their parts, cap not by much.
MORE = FOLD.replace("ask most", """judge cost number
for stop 1
for free max(x1, 2 * x1 - 3)
for bond x1 + 2 * x3 - 1
judge cap number
for stop 0
for free min(x1 + 1, 3)
for bond x1 + x3
judge score product
for stop 2
for free -x1
for bond 2 * x1 * x3
judge shape text
for stop
for free x1
for bond "(" x1 ")" x3
ask most""")

# Each basic ask, and asks put together of asks, two products deep.
ASKS = (
    ("least", "cost"), ("greatest", "worth"), ("best", 2, "worth"), ("best", 4, "cost"), ("ends", 1, "worth"),
    ("ends", 2, "cap"), ("within", 0, "worth"), ("within", 3, "cost"), ("spread", "worth"), ("spread", "score"),
    ("total", "ways"), ("total", "score"), ("names", "dots"), ("names", "shape"), ("first",),
    ("then", ("greatest", "worth"), ("total", "ways")), ("then", ("least", "cost"), ("names", "dots")),
    ("each", "worth", ("total", "ways")), ("each", "shape", ("best", 1, "cost")), ("each", "cap", ("first",)),
    ("beside", ("greatest", "worth"), ("spread", "cost")), ("beside", ("first",), ("names", "dots")),
    ("against", ("greatest", "worth"), ("least", "cost")), ("against", ("least", "cap"), ("greatest", "cost")),
    ("then", ("greatest", "worth"), ("each", "shape", ("total", "ways"))),
    ("then", ("greatest", "worth"), ("then", ("least", "cost"), ("names", "dots"))),
    ("then", ("least", "cost"), ("beside", ("total", "ways"), ("first",))),
    ("then", ("least", "worth"), ("against", ("greatest", "cap"), ("least", "cost"))),
    ("each", "cap", ("then", ("greatest", "worth"), ("total", "score"))),
    ("each", "shape", ("each", "worth", ("spread", "score"))),
    ("each", "worth", ("beside", ("names", "shape"), ("ends", 1, "cost"))),
    ("each", "shape", ("against", ("least", "worth"), ("least", "cost"))),
    ("beside", ("then", ("greatest", "worth"), ("first",)), ("total", "score")),
    ("beside", ("each", "cap", ("names", "dots")), ("within", 1, "cost")),
    ("beside", ("against", ("greatest", "worth"), ("least", "cost")), ("beside", ("total", "ways"), ("first",))),
)


class Choosing(Case):
    def look(self, book, ask, rows):
        """Compares each entry that is needed with the answer to its bag."""
        shape = Shape(book)
        known = {}
        self.same(self.whole_entry(book, ask, rows, known), once(shape, ask, rows))
        for (lot, stretch), told in known.items():
            self.same(told, answer_to(ask, bag_of(shape, ask, rows, lot, stretch)))
        return known

    def whole_entry(self, book, ask, rows, known):
        whole = (book.start, tuple((0, len(row)) for row in rows))
        return entry(book, ask, rows, *whole, known) if may_stand(book.program, whole) else None

    def test_asks_that_pass(self):
        book = Book(read(MORE))
        for ask in ASKS:
            self.same(passes(book, ask), True)
            for row in ("", "a", "ab", "abab", "babba", "abbaab"):
                self.look(book, ask, (row,))

    def test_two_rows(self):
        book = Book(read(TWIN))
        for ask in (("greatest", "worth"), ("total", "ways"), ("names", "told"), ("first",),
                    ("then", ("greatest", "worth"), ("names", "told")), ("each", "told", ("best", 2, "worth")),
                    ("beside", ("spread", "worth"), ("each", "told", ("total", "ways")))):
            # By ways the maker round has a fault, but it is not used.
            self.same(used_border(Shape(book), ask), None)
            for rows in (("", ""), ("a", "b"), ("ab", "ab"), ("aab", "bab"), ("aa", "aa")):
                self.look(book, ask, rows)

    def test_by_gathered_and_make_of(self):
        book = Book(read(MORE))
        shape, rows = Shape(book), ("abba",)
        for ask in ASKS:
            told = {}
            for stretch in sorted(stretches_under(rows), key=lambda pairs: pairs[0][1] - pairs[0][0]):
                made = []
                for number, cut, parts in looks(book.program, rows, "fold", stretch):
                    way = book.ways("fold")[number]
                    made.append(make_of(book, ask, way[0], dress_at(rows, way, stretch, cut),
                                        tuple(told[part] for part in parts), ("fold", number, cut)))
                told[("fold", stretch)] = gathered(ask, tuple(made))
                self.same(told[("fold", stretch)], answer_to(ask, bag_of(shape, ask, rows, "fold", stretch)))

    def test_drawn_programs_and_asks(self):
        compared = 0
        for seed, (draw, book) in enumerate(ringless(range(300))):
            rows = draw.drawn_rows()
            for number in range(4):
                judges = {"j": "number", "k": "number", "o": "product", "z": "text"}
                ask = AskDraw(4 * seed + number, judges).ask(number)
                if passes(book, ask):
                    self.look(book, ask, rows)
                    compared += len(bag_of(Shape(book), ("first",), rows, "s",
                                           tuple((0, len(row)) for row in rows))) > 1
        self.assertGreater(compared, 20)

    def test_asks_whose_border_is_not_used(self):
        book = Book(read(BEND))
        for ask in (("least", "k"), ("greatest", "k"), ("best", 2, "k"), ("within", 0, "k"), ("ends", 1, "k"),
                    ("each", "j", ("least", "k")), ("beside", ("best", 1, "k"), ("first",))):
            self.same(passes(book, ask), False)
            self.same(used_border(Shape(book), ask), None)
            for row in ("", "a", "ab", "bab"):
                self.same(early(book, ask, (row,)), once(Shape(book), ask, (row,)))

    def test_an_ask_that_does_not_pass_may_go_wrong(self):
        text = BEND.replace("for f max(0, x1)", "for f 3 - x1").replace("way e(none)", "way e(none)\nway d(none)")
        text = text.replace("for e 0", "for e 0\nfor d 1").replace("for e 1", "for e 1\nfor d 1") + "\nfor d"
        book = Book(read(text))
        self.assertNotEqual(early(book, ("least", "j"), ("a",)), once(Shape(book), ("least", "j"), ("a",)))

    def test_a_start_that_is_not_made(self):
        book = Book(read(FOLD.replace("stop(none)", "stop(fold)")))
        self.same((early(book, ("total", "ways"), ("ab",)), once(Shape(book), ("total", "ways"), ("ab",))), (None, None))
