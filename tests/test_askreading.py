"""[14], [17]: asks."""

from chooseonce.askreading import ask_from, read_ask
from chooseonce.errors import BadText
from chooseonce.readers import LineReader
from tests.helping import Case


class Asks(Case):
    def refused(self, text, place):
        self.raises(BadText(0, place), read_ask, text)

    def test_basic_asks(self):
        for how in ("least", "greatest", "spread", "total", "names"):
            self.same(read_ask(how + " worth"), (how, "worth"))
        for how in ("best", "ends", "within"):
            self.same(read_ask(how + " 12 worth"), (how, 12, "worth"))
        self.same(read_ask("first"), ("first",))
        self.same(read_ask("within 0 j"), ("within", 0, "j"))
        self.same(read_ask("best 1 j"), ("best", 1, "j"))

    def test_asks_put_together(self):
        a, b = ("least", "j"), ("first",)
        self.same(read_ask("(each k least j)"), ("each", "k", a))
        for how in ("then", "beside", "against"):
            self.same(read_ask("(least j " + how + " first)"), (how, a, b))
        self.same(
            read_ask("((least j beside first) then (each k (first against best 2 k)))"),
            ("then", ("beside", a, b), ("each", "k", ("against", b, ("best", 2, "k")))),
        )

    def test_deep_asks(self):
        text, tree = "first", ("first",)
        for _ in range(100):
            text, tree = "(each k " + text + ")", ("each", "k", tree)
        self.same(read_ask(text), tree)
        text, tree = "first", ("first",)
        for _ in range(100):
            text, tree = "(" + text + " then least j)", ("then", tree, ("least", "j"))
        self.same(read_ask(text), tree)

    def test_blanks_say_nothing(self):
        self.same(read_ask("  (  each k(  first then  first)) "),
                  read_ask("(each k (first then first))"))

    def test_the_first_word_with_which_an_ask_cannot_go_on(self):
        for text, place in (
            ("", 0), (" ", 1), ("lot", 0), ("j", 0), ("7", 0), ('"least" j', 0), ('"first"', 0),
            (")", 0), ("each k first", 0), ("least", 5), ("least 2", 6), ("least least", 6),
            ("least x1", 6), ("least j k", 8), ("least 2 j", 6), ("best j", 5), ("best 0 j", 5),
            ("ends 0 j", 5), ("best 2", 6), ("best 2 3", 7), ("best -1 j", 5), ("within -1 j", 7),
            ("ends j", 5), ("first j", 6), ("first first", 6), ("(", 1), ("()", 1), ("(first)", 6),
            ("(first first)", 7), ("(first then)", 11), ("(first then first", 17),
            ("(first then first then first)", 18), ("(first each first)", 7), ("first then first", 6),
            ("(each first)", 6), ("(each 2 first)", 6), ("(each k)", 7), ("(each k first", 13),
            ("(each k first first)", 14), ("(each k then first)", 8), ('(first "then" first)', 7),
            ('("each" k first)', 1), ("(first, first)", 6), ("(first then first))", 18),
            ("within 0 lot", 9), ("(least j against)", 16),
        ):
            self.refused(text, place)

    def test_ask_from_lets_stay_what_follows(self):
        reader = LineReader(5, "least j k")
        self.same(ask_from(reader), ("least", "j"))
        self.same(reader.look(), ("word", "k"))
        reader = LineReader(5, "(each j first) )")
        self.same(ask_from(reader=reader), ("each", "j", ("first",)))
        self.same(reader.look(), ("mark", ")"))
        self.raises(BadText(5, 5), ask_from, LineReader(5, "best 0 j"))
        self.same(read_ask(text="first"), ("first",))
