"""[6], [33]: the values of nodes."""

from chooseonce.askreading import read_ask
from chooseonce.books import Book
from chooseonce.nodevalues import judge_value, node_value
from chooseonce.programs import read
from tests.helping import FOLD, PAIR, Case

ONE, TWO = Book(read(FOLD)), Book(read(PAIR))
DRESS = (("a",), None, ("b",), None)


class Judges(Case):
    def test_each_sort(self):
        self.same(judge_value(ONE, "worth", "bond", DRESS, (2, 5)), 8)
        self.same(judge_value(ONE, "ways", "bond", DRESS, (2, 5)), 10)
        self.same(judge_value(ONE, "dots", "bond", DRESS, (".", "()")), "(.)()")

    def test_each_maker(self):
        self.same(judge_value(ONE, "worth", "stop", (("",),), ()), 0)
        self.same(judge_value(ONE, "ways", "stop", (("",),), ()), 1)
        self.same(judge_value(ONE, "dots", "stop", (("",),), ()), "")
        self.same(judge_value(ONE, "worth", "free", (("b",), None), (7,)), 7)
        self.same(judge_value(ONE, "dots", "free", (("b",), None), ("()",)), ".()")

    def test_from_the_dress(self):
        self.same(judge_value(TWO, "worth", "match", (("a", "b"), None), (10,)), 2 + 0 + 10)
        self.same(judge_value(TWO, "worth", "match", (("b", "a"), None), (10,)), -3 - 7 + 10)
        self.same(judge_value(TWO, "worth", "left", (("abc", ""), None), (10,)), 4)
        self.same(judge_value(TWO, "worth", "turn", (("a", "c"), None), (4,)), 5)
        self.same(judge_value(TWO, "worth", "right", (("", "ab"), None), (4,)), 2)
        self.same(judge_value(TWO, "ways", "turn", (("b", "a"), None), (3,)), 2 * -3 * 0 * 9 + 3)
        self.same(judge_value(TWO, "told", "match", (("a", "b"), None), ("-",)), "ab-")

    def test_by_name(self):
        self.same(judge_value(given=(7,), dress=(("b",), None), maker="free", judge="worth", book=ONE),
                  7)


class Asks(Case):
    def test_as_the_document_prints_it(self):
        ask = ("each", "worth", ("names", "dots"))
        self.same(node_value(ONE, ask, "bond", DRESS, ((1, "()"), (0, ".")), None), (2, "(()).",))

    def test_basic_asks_tell_the_value_by_the_judge(self):
        for ask in ("least worth", "greatest worth", "best 2 worth", "ends 3 worth",
                    "within 9 worth", "spread worth"):
            self.same(node_value(ONE, read_ask(ask), "bond", DRESS, (2, 5), None), 8)
        for ask in ("total ways", "spread ways"):
            self.same(node_value(ONE, read_ask(ask), "bond", DRESS, (2, 5), None), 10)
        self.same(node_value(ONE, ("names", "dots"), "bond", DRESS, (".", ""), None), "(.)")

    def test_first(self):
        stop = ("fold", 0, ((0,),), ())
        head = ("fold", 2, ((1, 0, 1, 0),))
        self.same(node_value(ONE, ("first",), "bond", DRESS, (stop, stop), head),
                  ("fold", 2, ((1, 0, 1, 0),), (stop, stop)))
        self.same(node_value(ONE, ("first",), "stop", (("",),), (), ("fold", 0, ((0,),))), stop)

    def test_pairs(self):
        given = ((1, 2), (3, 4))
        for how in ("then", "beside", "against"):
            ask = (how, ("greatest", "worth"), ("total", "ways"))
            self.same(node_value(ONE, ask, "bond", DRESS, given, None), (5, 8))

    def test_first_on_the_first_side(self):
        ask = ("beside", ("first",), ("total", "ways"))
        self.same(node_value(ONE, ask, "bond", DRESS, (("T1", 2), ("T2", 3)), ("l", 2, "c")),
                  (("l", 2, "c", ("T1", "T2")), 6))

    def test_asks_within_asks(self):
        ask = read_ask("((each dots total ways) beside (least worth then first))")
        given = ((("x", 2), (10, "T1")), (("y", 3), (20, "T2")))
        self.same(
            node_value(ONE, ask, "bond", DRESS, given, ("lot", 7, "cut")),
            (("(x)y", 6), (31, ("lot", 7, "cut", ("T1", "T2")))),
        )

    def test_without_parts(self):
        ask = read_ask("(each dots (least worth then (total ways beside first)))")
        head = ("fold", 0, ((0,),))
        self.same(node_value(ONE, ask, "stop", (("",),), (), head), ("", (0, (1, (*head, ())))))

    def test_head_says_nothing_without_first(self):
        ask = ("then", ("greatest", "worth"), ("total", "ways"))
        for head in (None, ("fold", 0, ((0,),)), ()):
            self.same(node_value(book=ONE, ask=ask, maker="stop", dress=(("",),), given=(), head=head),
                      (0, 1))

    def test_deep_asks(self):
        ask, given, wanted = ("names", "dots"), "x", ".x"
        for _ in range(120):
            ask, given, wanted = ("each", "worth", ask), (2, given), (2, wanted)
        self.assertEqual(node_value(ONE, ask, "free", (("a",), None), (given,), None), wanted)
        ask, given, wanted = ("names", "dots"), "x", ".x"
        for _ in range(120):
            ask, given, wanted = ("beside", ask, ("total", "ways")), (given, 3), (wanted, 3)
        self.assertEqual(node_value(ONE, ask, "free", (("a",), None), (given,), None), wanted)
