"""[23]: what stands in an ask; consequences of [29]."""

from chooseonce.askparts import asks_in, has_first, judges_of
from tests.drawing import Draw
from tests.helping import Case

ASK = ("beside", ("each", "dots", ("best", 2, "worth")), ("first",))


class AskParts(Case):
    def test_as_the_document_prints_it(self):
        self.same(judges_of(ASK), ("dots", "worth"))
        self.same(has_first(ASK), 1)

    def test_basic_asks(self):
        for ask in (("least", "j"), ("greatest", "j"), ("best", 3, "j"), ("ends", 3, "j"),
                    ("within", 3, "j"), ("spread", "j"), ("total", "j"), ("names", "j")):
            self.same(judges_of(ask), ("j",))
            self.same(asks_in(ask), ())
            self.same(has_first(ask), 0)
        self.same(judges_of(("first",)), ())
        self.same(asks_in(("first",)), ())
        self.same(has_first(("first",)), 1)

    def test_asks_put_together(self):
        a, b = ("best", 2, "j"), ("each", "j", ("first",))
        for how in ("then", "beside", "against"):
            self.same(asks_in((how, a, b)), (a, b))
            self.same(judges_of((how, a, b)), ("j", "j"))
            self.same(judges_of((how, b, ("names", "k"))), ("j", "k"))
            self.same(has_first((how, b, b)), 2)
        self.same(asks_in(b), (("first",),))
        self.same(judges_of(("each", "i", ("beside", ("total", "k"), ("least", "a")))),
                  ("i", "k", "a"))

    def test_deep_asks(self):
        ask = ("least", "j")
        for _ in range(150):
            ask = ("then", ("first",), ("each", "k", ask))
        self.assertEqual(judges_of(ask), ("k",) * 150 + ("j",))
        self.assertEqual(has_first(ask), 150)

    def test_by_name(self):
        self.same((judges_of(ask=ASK), asks_in(ask=ASK), has_first(ask=ASK)),
                  (("dots", "worth"), ASK[1:], 1))

    def test_judges_are_its_own_then_those_of_its_asks(self):
        for seed in range(200):
            ask = Draw(seed).ask(4)
            inner = asks_in(ask)
            own = () if ask[0] in ("first", "then", "beside", "against") else (
                (ask[1],) if inner else (ask[-1],))
            found = list(own)
            for one in inner:
                found.extend(judges_of(one))
            self.same(judges_of(ask), tuple(found))
            firsts = sum(has_first(one) for one in inner)
            self.same(has_first(ask), 1 if ask == ("first",) else firsts)
