"""[8], [55]: the shorts of answers; a consequence of [58]."""

from chooseonce.answers import answer_to
from chooseonce.shorts import short_of
from tests.askdrawing import TREES, AskDraw
from tests.helping import Case
from tests.reckoning import short


class Shorts(Case):
    def test_as_the_document_prints_it(self):
        self.same((short_of(("spread", "j"), ((0, 2), (3, 1))), short_of(("least", "j"), 0)), ((0, 0, 3), (0,)))

    def test_the_answer_alone(self):
        for ask in (("least", "j"), ("greatest", "j"), ("total", "j")):
            self.same(short_of(ask, -7), (-7,))
        self.same(short_of(("first",), TREES[2]), (TREES[2],))

    def test_the_members(self):
        for ask in (("best", 3, "j"), ("ends", 2, "j"), ("within", 9, "j")):
            self.same(short_of(ask, (1, 1, 4)), (1, 1, 4))
            self.same(short_of(ask, (0,)), (0,))
        self.same(short_of(("names", "j"), ("", "a", "ab")), ("", "a", "ab"))
        self.same(short_of(("against", ("greatest", "j"), ("least", "k")), ((5, 4), (2, 3))), ((5, 4), (2, 3)))

    def test_spread(self):
        self.same(short_of(("spread", "j"), ((-1, 3),)), (-1, -1, -1))
        self.same(short_of(answer=((-1, 1), (2, 2), (9, 1)), ask=("spread", "j")), (-1, 2, 2, 9))
        self.same(len(short_of(("spread", "j"), ((0, 15000), (1, 5000)))), 20000)

    def test_drawn_answers(self):
        for seed in range(400):
            draw = AskDraw(seed)
            ask = draw.ask(0) if seed % 4 else ("against", ("least", "j"), ("greatest", "k"))
            told = answer_to(ask, draw.bag(ask, 1, 8))
            self.same(short_of(ask, told), short(ask, told))
            self.same(answer_to(ask, short_of(ask, told)), told)
