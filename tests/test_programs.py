"""[14], [18]: whole programs; the trees of [3] and [4]."""

from chooseonce.errors import BadText
from chooseonce.programs import read
from tests.helping import FOLD, PAIR, Case

SMALL = ["signs ab", "rows 1", "start s", "lot s", "way f(sign)"]
FULL = [
    "signs ab", "rows 1", "pairs p ab", "numbers n 1 else 0", "start s", "lot s", "way f(sign)",
    "judge j number", "for f 1", "ask q = least j",
]


class Programs(Case):
    def refused(self, lines, line, place):
        self.raises(BadText(line, place), read, "\n".join(lines))

    def changed(self, line, text, place):
        """FULL with another text in this line is refused there."""
        self.refused(FULL[:line] + [text] + FULL[line + 1:], line, place)

    def test_a_small_one(self):
        self.same(read("\n".join(SMALL)), (
            "program", "ab", 1, (), (), "s", (("s", (("f", (("plain", (("sign", ""),)),), ()),)),),
            (), (),
        ))

    def test_fold(self):
        program = read(FOLD)
        self.same(program[:6], ("program", "ab", 1, (("mate", ("ab", "ba")),), (), "fold"))
        sign, fold = ("plain", (("sign", ""),)), ("lot", "fold")
        self.same(program[6], (("fold", (
            ("stop", (("plain", (("none",),)),), ()),
            ("free", (sign, fold), ()),
            ("bond", (sign, fold, sign, fold), (("mate", (0, 0), (2, 0)),)),
        )),))
        self.same(program[7], (
            ("worth", "number", (
                ("stop", ("one", (((0, ("one",)),),))),
                ("free", ("one", (((1, ("part", 1)),),))),
                ("bond", ("one", (((1, ("one",)), (1, ("part", 1)), (1, ("part", 3))),))),
            )),
            ("ways", "product", (
                ("stop", ((1, (), ()),)), ("free", ((1, (), (1,)),)), ("bond", ((1, (), (1, 3)),)),
            )),
            ("dots", "text", (
                ("stop", ()), ("free", (("word", "."), ("part", 1))),
                ("bond", (("word", "("), ("part", 1), ("word", ")"), ("part", 3))),
            )),
        ))
        self.same(program[8], (
            ("most", ("greatest", "worth")),
            ("how", ("then", ("greatest", "worth"), ("total", "ways"))),
            ("all", ("each", "worth", ("names", "dots"))),
        ))

    def test_two_rows(self):
        program = read(PAIR)
        self.same(program[1:6], (
            "abc", 2, (("same", ("aa", "bb", "cc")), ("up", ("ab", "bc"))),
            (("gain", 1, -1, (("a", 2), ("b", -3), ("c", 0))),
             ("cost", 2, 5, (("ab", 0), ("ba", -7)))),
            "both",
        ))
        self.same(tuple(len(entry[1]) for entry in program[6]), (5, 2))
        self.same(program[6][1][1][0], ("last", (
            ("plain", (("run", 2, 2), ("sign", ""))), ("plain", (("none",), ("none",))),
            ("lot", "both"),
        ), ()))
        self.same(tuple((judge[0], judge[1], len(judge[2])) for judge in program[7]), (
            ("worth", "number", 7), ("size", "number", 7), ("ways", "product", 7),
            ("told", "text", 7),
        ))
        self.assertEqual(len(program[8]), 12)

    def test_blanks_and_empty_lines_say_nothing(self):
        text = "\n\n  signs  ab \n   \nrows 1\n start s\nlot s\n way f ( sign )  \n\n"
        self.same(read(text), read("\n".join(SMALL)))
        self.same(read(text=text), read("\n".join(SMALL)))

    def test_empty_lines_are_counted(self):
        self.raises(BadText(3, 1), read, "\nsigns ab\n  \n row 1")
        self.raises(BadText(2, 4), read, "\n\nrow A\n")

    def test_the_end_where_a_line_is_due(self):
        self.raises(BadText(1, 0), read, "")
        self.raises(BadText(1, 0), read, "   ")
        self.raises(BadText(4, 0), read, "\n \n\n")
        for many in range(1, 7):
            self.raises(BadText(many, 0), read, "\n".join(FULL[:many]))
            self.raises(BadText(many + 1, 0), read, "\n".join(FULL[:many]) + "\n")
            self.raises(BadText(many + 2, 0), read, "\n".join(FULL[:many]) + "\n\n")

    def test_the_end_where_no_line_is_due(self):
        for many in range(7, 11):
            text = "\n".join(FULL[:many])
            self.same(read(text + "\n"), read(text))
        for many in (7, 8, 9):
            self.assertEqual(len(read("\n".join(FULL[:many]))[8]), 0)

    def test_lines_that_are_not_due(self):
        words = ("signs", "rows", "pairs", "numbers", "start", "lot", "way", "judge", "for", "ask")
        due = (
            "signs", "rows", "pairs numbers start", "pairs numbers start", "numbers start", "lot",
            "way", "way lot judge ask", "for judge ask", "for judge ask", "ask",
        )
        for many, let in enumerate(due):
            for word in words:
                if word not in let.split():
                    self.refused(FULL[:many] + ["", "  " + word], many + 1, 2)

    def test_lines_that_are_due_go_on(self):
        due = (
            "signs", "rows", "pairs numbers start", "pairs numbers start", "numbers start", "lot",
            "way", "way lot judge ask", "for judge ask", "for judge ask", "ask",
        )
        for many, let in enumerate(due):
            for word in let.split():
                # The line ends behind its first word, so the error is told behind it.
                self.refused(FULL[:many] + [word], many, len(word))

    def test_first_words_of_other_kinds(self):
        for text in ("sign ab", "signsx ab", "(", "7", '"signs" ab', "=", "- signs ab"):
            self.refused(["", " " + text], 1, 1)
        self.refused(SMALL + ['"way" f(sign)'], 5, 0)

    def test_each_line_is_cut_whole_ahead_of_all_else(self):
        self.refused(["row 2 A"], 0, 6)
        self.refused(["signs aa 01"], 0, 9)
        self.refused(["signs ab", 'rows 3 "'], 1, 7)

    def test_lines_are_taken_one_by_one(self):
        self.refused(["signs aa", "A"], 0, 6)
        self.refused(["signs ab", "row 1", "A"], 1, 0)
        self.refused(["signs ab", "rows 1", "start s", "A"], 3, 0)

    def test_signs(self):
        self.same(read("\n".join(["signs zyxwvu"] + SMALL[1:]))[1], "zyxwvu")
        for text, place in (
            ("signs", 5), ("signs abcdefg", 6), ("signs aba", 6), ("signs a1", 6), ("signs 1", 6),
            ("signs a b", 8), ('signs "ab"', 6), ("signs (ab)", 6), ("signs abcdefg h", 6),
        ):
            self.changed(0, text, place)
        self.same(read("\n".join(["signs any"] + SMALL[1:]))[1], "any")

    def test_rows(self):
        for text, place in (
            ("rows", 4), ("rows 0", 5), ("rows 3", 5), ("rows a", 5), ("rows 1 2", 7), ("rows -1", 5),
            ('rows "1"', 5),
        ):
            self.changed(1, text, place)

    def test_pairs(self):
        for text, place in (
            ("pairs", 5), ("pairs p", 7), ("pairs ab", 8), ("pairs at ab", 6), ("pairs x1 ab", 6),
            ("pairs 3 ab", 6), ("pairs p a", 8), ("pairs p abc", 8), ("pairs p ab abc", 11),
            ("pairs p ab ba ab", 14), ("pairs p ab ab cc cc", 11), ("pairs p a1", 8),
            ("pairs p ab, ba", 10), ('pairs p "ab"', 8), ('pairs p ab "ab"', 11),
            ("pairs p 12", 8), ("pairs p ab 12", 11),
        ):
            self.changed(2, text, place)
        lines = FULL[:2] + ["pairs p at aa zz"] + FULL[3:]
        self.same(read("\n".join(lines))[3], (("p", ("at", "aa", "zz")),))

    def test_numbers(self):
        for text, place in (
            ("numbers", 7), ("numbers 1", 8), ("numbers n", 9), ("numbers n else", 10),
            ("numbers n 0 else 0", 10), ("numbers n 3 else 0", 10), ("numbers n 1", 11),
            ("numbers n 1 0", 12), ("numbers n 1 else", 16), ("numbers n 1 else a", 17),
            ("numbers n 1 else -", 18), ("numbers n 1 else - a", 19), ("numbers n 1 else 0 a", 20),
            ("numbers n 1 else 0 ab 1", 19), ("numbers n 2 else 0 a 1", 19),
            ("numbers n 1 else 0 1", 19), ("numbers n 1 else 0 a b", 21),
            ("numbers n 1 else 0 a 1 a 1", 23), ("numbers n 1 else 0 a 1 b 2 b", 27),
            ("numbers n 1 else 0 a 1 2", 23), ("numbers n 1 else --1", 18),
            ("numbers n 1 else 0, a 1", 18), ("numbers n 1 other 0", 12),
            ("numbers lot 1 else 0", 8), ('numbers n 1 else 0 "a" 1', 19),
        ):
            self.changed(3, text, place)
        lines = FULL[:3] + ["numbers n 2 else - 7 at 0 ab -1", "numbers m 1 else 3"] + FULL[4:]
        self.same(read("\n".join(lines))[4], (
            ("n", 2, -7, (("at", 0), ("ab", -1))), ("m", 1, 3, ()),
        ))

    def test_start_lot_and_way(self):
        for line, word in ((4, "start"), (5, "lot")):
            for rest, place in (("", 0), (" lot", 1), (" x1", 1), (" 3", 1), (" s t", 3), (" (", 1)):
                self.changed(line, word + rest, len(word) + place)
        for text, place in (
            ("way", 3), ("way f", 5), ("way f(sign) g", 12), ("way f(sign / sign)", 11),
            ("way f(sign) when p 0", 20),
        ):
            self.changed(6, text, place)

    def test_judges(self):
        for text, place in (
            ("judge", 5), ("judge j", 7), ("judge number", 6), ("judge j numbers", 8),
            ("judge j number number", 15), ("judge j 1", 8), ('judge j "text"', 8),
            ("judge j sum", 8),
        ):
            self.changed(7, text, place)

    def test_for(self):
        for text, place in (
            ("for", 3), ("for f", 5), ("for lot 1", 4), ("for f 1 1", 8), ("for f x1 * x1", 9),
            ('for f "a"', 6), ("for 1", 4), ("for f = 1", 6),
        ):
            self.changed(8, text, place)

    def test_a_for_has_the_sort_of_its_judge(self):
        lines = SMALL + [
            "judge i text", "for f", "judge j product", "for f x1 * x1", "judge k number",
            "for f max(x1, 1)", "for g 1", "judge l text",
        ]
        self.same(read("\n".join(lines))[7], (
            ("i", "text", (("f", ()),)),
            ("j", "product", (("f", ((1, (), (1, 1)),)),)),
            ("k", "number", (
                ("f", ("max", (((1, ("part", 1)),), ((1, ("one",)),)))),
                ("g", ("one", (((1, ("one",)),),))),
            )),
            ("l", "text", ()),
        ))

    def test_asks(self):
        for text, place in (
            ("ask", 3), ("ask q", 5), ("ask q least j", 6), ("ask q =", 7), ("ask = least j", 4),
            ("ask q = least", 13), ("ask q = least j k", 16), ("ask q = (first)", 14),
            ("ask ask = first", 4), ("ask q - first", 6), ('ask q "=" first', 6),
        ):
            self.changed(9, text, place)

    def test_names_may_stand_twice(self):
        lines = ["signs ab", "rows 1", "pairs p ab", "pairs p ab", "numbers p 1 else 0",
                 "numbers p 1 else 0", "start p", "lot p", "way p(p)", "way p(p)", "lot p",
                 "way p(p)", "judge p text", "for p", "for p", "judge p text", "ask p = first",
                 "ask p = first"]
        way = ("p", (("lot", "p"),), ())
        self.same(read("\n".join(lines)), (
            "program", "ab", 1, (("p", ("ab",)),) * 2, (("p", 1, 0, ()),) * 2, "p",
            (("p", (way, way)), ("p", (way,))),
            (("p", "text", (("p", ()),) * 2), ("p", "text", ())), (("p", ("first",)),) * 2,
        ))
