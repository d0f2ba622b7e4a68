"""[8], [57]: make; consequences of [58]."""

from itertools import product

from chooseonce.answers import answer_to
from chooseonce.books import Book
from chooseonce.faults import fault_at
from chooseonce.makes import make_of
from chooseonce.nodevalues import node_value
from chooseonce.programs import read
from tests.askdrawing import TREES, AskDraw
from tests.bookdrawing import BookDraw
from tests.helping import FOLD, PAIR, Case
from tests.reckoning import make

FOLDS, PAIRS = Book(read(FOLD)), Book(read(PAIR))
DRESS = (("a",), None, ("b",), None)
HEAD = ("fold", 2, ((1, 0, 1, 1),))

# Two number judges and two product judges over two parts.
BOTH = Book(read("""signs ab
rows 1
numbers gain 1 else 1 a 3
start s
lot s
way f(s, sign, s)
way e(none)
judge j number
for f x0 + 2 * x2 + gain[1]
for e 5
judge k number
for f max(x0 - x2, 0)
for e -1
judge o product
for f x0 * x2
for e 2
judge p product
for f gain[1] * x0 * x0 * x2 + 1
for e 3
judge z text
for f x2 at 1 x0
for e "<>\""""))


class Makes(Case):
    def test_as_the_document_prints_it(self):
        self.same(make_of(FOLDS, ("spread", "worth"), "bond", DRESS, (((0, 1), (1, 2)), ((0, 3),)), None),
                  ((1, 3), (2, 6)))
        self.same(make_of(FOLDS, ("least", "worth"), "bond", DRESS, (None, 4), None), None)
        self.same(make_of(FOLDS, ("first",), "stop", (("",),), (), ("fold", 0, ((0,),))),
                  ("fold", 0, ((0,),), ()))

    def both(self, ask, one, other, wanted, sign="a"):
        self.same(make_of(BOTH, ask, "f", (None, (sign,), None), (one, other), None), wanted)
        self.same(make_of(BOTH, ask, "f", (None, (sign,), None), (None, other), None), None)
        self.same(make_of(BOTH, ask, "f", (None, (sign,), None), (one, None), None), None)
        self.same(make_of(BOTH, ask, "f", (None, (sign,), None), (None, None), None), None)

    def test_basic_asks(self):
        self.both(("least", "j"), 1, -2, 0)
        self.both(("least", "j"), 1, -2, -2, "b")
        self.both(("greatest", "k"), 5, 2, 3)
        self.both(("best", 2, "j"), (1, 4), (0, 5), (4, 7))
        self.both(("ends", 1, "j"), (1, 4), (0, 5), (4, 17))
        self.both(("within", 3, "j"), (1, 4), (0, 5), (4, 7))
        self.both(("spread", "k"), ((0, 1), (5, 2)), ((1, 3), (4, 1)), ((0, 4), (1, 2), (4, 6)))
        self.both(("spread", "o"), ((2, 3),), ((5, 7),), ((10, 21),))
        self.both(("total", "o"), 4, -3, -12)
        self.both(("total", "p"), 2, 5, 61)
        self.both(("names", "z"), ("", "u"), ("v",), ("va", "vau"))

    def test_spread_of_values_that_stand_very_often(self):
        many = 10 ** 30
        self.both(("spread", "o"), ((2, many),), ((0, many), (5, 3)), ((0, many ** 2), (10, 3 * many)))

    def test_against(self):
        ask = ("against", ("least", "j"), ("greatest", "k"))
        # All values: (3, 0), (7, 0), (4, 1), (8, 0).
        self.both(ask, ((0, 1), (1, 2)), ((0, 1), (2, 2)), ((3, 0), (4, 1)))
        self.both(("against", ("greatest", "j"), ("greatest", "k")), ((0, 1),), ((0, 1), (2, -2)), ((7, 3),))

    def test_then(self):
        self.both(("then", ("least", "j"), ("total", "o")), (1, 4), (-2, 5), (0, 20))
        self.both(("then", ("greatest", "k"), ("names", "z")), (1, ("u",)), (2, ("", "v")), (0, ("au", "vau")))

    def test_each(self):
        ask = ("each", "k", ("total", "o"))
        # Keys 0 and 3 less 1 and 4: 0 for the most, 2 for one.
        self.both(ask, ((0, 2), (3, 5)), ((1, 7), (4, 11)), ((0, 2 * 7 + 2 * 11 + 5 * 11), (2, 35)))
        ask = ("each", "z", ("spread", "o"))
        self.both(ask, (("", ((1, 2),)),), (("u", ((3, 1), (4, 1))),), (("ua", ((3, 2), (4, 2))),))

    def test_beside(self):
        ask = ("beside", ("total", "o"), ("names", "z"))
        self.both(ask, (3, ("u",)), (5, ("v", "w")), (15, ("vau", "wau")))

    def test_first(self):
        head = ("s", 4, ((0, 1, 2),))
        dress = (None, ("b",), None)
        self.same(make_of(BOTH, ("first",), "f", dress, (TREES[0], TREES[3]), head),
                  ("s", 4, ((0, 1, 2),), (TREES[0], TREES[3])))
        self.same(make_of(BOTH, ("first",), "f", dress, (TREES[0], None), head), None)
        told = make_of(head=head, answers=((1, TREES[1]), (2, TREES[2])), dress=dress, maker="f",
                       ask=("beside", ("least", "j"), ("first",)), book=BOTH)
        self.same(told, (6, ("s", 4, ((0, 1, 2),), (TREES[1], TREES[2]))))

    def test_without_parts(self):
        for ask, wanted in (
            (("least", "j"), 5), (("best", 3, "j"), (5,)), (("ends", 1, "k"), (-1,)), (("within", 0, "j"), (5,)),
            (("spread", "o"), ((2, 1),)), (("total", "p"), 3), (("names", "z"), ("<>",)),
            (("then", ("least", "j"), ("total", "p")), (5, 3)),
            (("each", "z", ("each", "k", ("total", "o"))), (("<>", ((-1, 2),)),)),
            (("against", ("least", "j"), ("least", "k")), ((5, -1),)),
        ):
            self.same(make_of(BOTH, ask, "e", (("",),), (), None), wanted)

    def test_two_products_deep(self):
        ask = ("each", "z", ("then", ("least", "j"), ("best", 2, "k")))
        self.both(ask, (("", (1, (3, 4))),), (("", (0, (1,))), ("u", (5, (1, 2)))),
                  (("a", (4, (2, 3))), ("ua", (14, (1, 2)))))
        ask = ("then", ("greatest", "j"), ("beside", ("total", "o"), ("names", "z")))
        self.both(ask, (1, (2, ("u",))), (2, (5, ("v",))), (8, (10, ("vau",))))

    def test_drawn_programs(self):
        looked = []
        for draw, book, ask, maker, dress, bags, head in drawn_nodes(700):
            told = tuple(answer_to(ask, bag) for bag in bags)
            got = make_of(book, ask, maker, dress, told, head)
            self.same(got, make(book, ask, maker, dress, told, head))
            places = book.parts(maker)
            if () in bags:
                self.same(got, None)
            elif not any(fault_at(book, ask, maker, place) for place in places):
                values = tuple(node_value(book, ask, maker, dress, given, head) for given in product(*bags))
                self.same(got, answer_to(ask, values))
                looked.append(len(values) > 1)
        self.assertGreater(looked.count(True), 60)


def drawn_nodes(many):
    """Programs with an ask, and a node with a bag for each part, most of few values."""
    found = []
    for seed in range(many):
        program = BookDraw(seed)
        if seed % 2:
            # Values that do not fall with those of parts let more asks be without a fault.
            program.small = lambda draw=program: draw.random.randint(0, 2)
        book = Book(program.program())
        draw = AskDraw(seed, {"j": "number", "k": "number", "o": "product", "z": "text"})
        ask = draw.ask(seed % 3)
        maker = draw.random.choice(book.makers())
        kinds = book.kinds(maker)
        dress = tuple(None if kind == "lot" else tuple(text_for(draw, book, word) for word in kind)
                      for kind in kinds)
        bags = [draw.bag(ask, seed % 7 > 0, 3 if len(book.parts(maker)) < 3 else 2)
                for _ in book.parts(maker)]
        cut = tuple(tuple(1 for _ in kinds) for _ in range(book.rows))
        found.append((draw, book, ask, maker, dress, bags, ("s", 1, cut)))
    return found


def text_for(draw, book, word):
    if word == "sign":
        return draw.random.choice(book.signs)
    return "" if word == "none" else draw.random.choice(("", book.signs, book.signs[0]))
