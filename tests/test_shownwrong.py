"""[8], [67]: programs and rows by which asks that do not pass go wrong; (G6)."""

from chooseonce.askparts import judges_of
from chooseonce.bags import once
from chooseonce.books import Book
from chooseonce.borders import border_of, passes
from chooseonce.chains import ring_of
from chooseonce.programs import read
from chooseonce.shapes import Shape
from chooseonce.showing import shown
from chooseonce.shownwrong import is_kin, shown_wrong
from chooseonce.tables import early
from tests.askdrawing import AskDraw
from tests.bookdrawing import BookDraw
from tests.helping import BEND, FOLD, PAIR, Case
from tests.reckoning import answer, whole_bag
from tests.reckoning import early as early_by_rules
from tests.shapedrawing import ShapeDraw

BENDS = Book(read(BEND))

# By f: at 1 the judge j falls, k is flat, m rises and n bends; o is mixed for the signs c and b
# alone, and p is nought for the first sign of the program, which plain dresses have.
MIX = Book(read("""signs abc
rows 2
pairs up ab bc
numbers duo 1 else 1 a 0
numbers two 2 else 0 cb 5
start s
lot s
way f(sign / none, s, run 0 any / sign, t)
way e(none / none)
lot t
way e(none / none)
judge j number
for f 3 - 2 * x1 + x3
for e 0
judge k number
for f max(0, x1 - 7, duo[0.0])
for e 0
judge m number
for f 2 * x1 + x3 + 4 * len 2.0
for e 0
judge n number
for f min(x1 - 999999999999, 999999999999 - 3 * x1, x3)
for e 0
judge o product
for f x1 * x3 + two[0.0, 2.1] * x3
for e 0
judge p product
for f duo[0.0] * x1 * x3
for e 0
judge z text
for f at 0.0 x3
for e
judge y text
for f x1 "-" x1
for e
"""))


class Wrong(Case):
    def look(self, book, ask):
        """Looks at what is shown; returns the border."""
        border = border_of(book, ask)
        told = shown_wrong(book, ask)
        if border is None:
            self.same(told, None)
            return None
        program, rows = told
        other = Book(program)
        self.look_at_form(book, ask, border, program, rows)
        self.same(read(shown(program)), program)
        self.same(ring_of(other), None)
        self.same(is_kin(book, other, ask), True)
        self.same(passes(other, ask), False)
        wanted = once(Shape(other), ask, rows)
        self.same(wanted, answer(ask, whole_bag(program, ask, rows)))
        got = early(Shape(other), ask, rows)
        self.same(got, early_by_rules(other, ask, rows))
        self.assertIsNotNone(got)
        self.assertNotEqual(wanted, got)
        return border

    def look_at_form(self, book, ask, border, program, rows):
        self.same(program[1:5], book.program[1:5])
        self.same(program[8], (("shown", ask),))
        self.same(tuple((judge[0], judge[1]) for judge in program[7]),
                  tuple((judge, book.sort_of(judge)) for judge in judges_of(ask)))
        lots = dict(program[6])
        start = lots.pop(program[5])
        self.same((len(start), start[0][0]), (1, border[1]))
        self.assertEqual(set(lots), {piece[1] for piece in start[0][1] if piece[0] == "lot"})
        makers = {border[1]}
        for ways in lots.values():
            self.assertLessEqual(len(ways), 9)
            for maker, pieces, _ in ways:
                makers.add(maker)
                self.assertEqual({piece[0] for piece in pieces}, {"plain"})
                self.assertNotIn("run", [mark[0] for piece in pieces for mark in piece[1]])
        for judge in program[7]:
            self.assertEqual({maker for maker, _ in judge[2]}, makers)
        self.assertIs(type(rows), tuple)
        self.assertTrue(all(len(row) <= 5 for row in rows))

    def told(self, ask, fault, place=1, book=MIX):
        border = self.look(book, ask)
        self.same(border if fault is None else border[1:], None if fault is None else ("f", place, fault))

    def test_as_the_document_prints_it(self):
        ask = ("within", 0, "j")
        program, rows = shown_wrong(BENDS, ask)
        shape = Shape(Book(program))
        self.assertNotEqual(once(shape, ask, rows), early(shape, ask, rows))
        self.same((is_kin(BENDS, Book(program), ask), is_kin(Book(program), BENDS, ask)), (True, False))
        self.look(BENDS, ask)

    def test_asks_that_pass(self):
        for ask in (("first",), ("spread", "j"), ("names", "z"), ("least", "m"), ("within", 3, "m"), ("ends", 1, "j"),
                    ("total", "p"), ("then", ("least", "m"), ("first",)), ("each", "j", ("spread", "n"))):
            self.told(ask, None)
        self.same(shown_wrong(ask=Book(read(FOLD)).ask("how"), book=Book(read(FOLD))), None)

    def test_falls(self):
        for ask in (("least", "j"), ("greatest", "j"), ("best", 1, "j"), ("best", 2, "j"), ("best", 4, "j"),
                    ("within", 0, "j"), ("within", 99, "j"), ("least", "n"), ("greatest", "n"), ("best", 3, "n"),
                    ("within", 7, "n")):
            self.told(ask, "falls")

    def test_falls_by_one_side_of_an_against(self):
        for one in ("least", "greatest"):
            for other in ("least", "greatest"):
                self.told(("against", (one, "j"), (other, "m")), "falls")
                self.told(("against", (one, "m"), (other, "j")), "falls")
                self.told(("against", (one, "j"), (other, "n")), "falls")

    def test_flat(self):
        for d in (0, 1, 99):
            self.told(("within", d, "k"), "flat")
        self.told(("within", 2, "j"), "flat", 0, Book(read(
            "signs a\nrows 1\nstart s\nlot s\nway f(s)\nway e(none)\njudge j number\nfor f min(x0, 5)\nfor e 0")))

    def test_bends(self):
        for n in (1, 2, 3, 4):
            self.told(("ends", n, "n"), "bends")
            for formula in ("max(x0, -x0)", "min(x0 - 90, 30 - 2 * x0, 4)", "max(-3 * x0, x0 - 999999999999, 7)",
                            "max(-x0 - 10, x0 - 30)", "min(x0 + 10, 30 - x0)", "max(-x0 + 10, x0 + 30)",
                            "min(x0 - 10, -30 - 2 * x0)"):
                self.told(("ends", n, "j"), "bends", 0, Book(read(
                    "signs a\nrows 1\nstart s\nlot s\nway f(s, s)\nway e(none)\njudge j number\n"
                    f"for f {formula}\nfor e 0")))

    def test_mixed(self):
        self.told(("total", "o"), "mixed")
        for formula, place in (
            ("1", 0), ("x0", 1), ("x0 * x0 * x1", 0), ("x0 * x0 * x0 * x1", 0), ("x0 * x1 * x1 - x0 * x1", 1),
            ("x0 * x1 + duo[2]", 0), ("x0 * x1 - duo[2] * x0 * x1 * x1 + duo[3] * x0 * x1 * x1", 1),
            ("x0 * x0 * x1 - x0 * x0 * x1 * x1", 0), ("x0 * x0 * x0 * x1 - x0 * x0 * x1", 0),
            ("x0 * x1 + 3 * x0 * x0 * x0 * x1 * x1 * x1 - 12 * x0 * x0 * x0 * x1", 0), ("x0 * x1 - x0", 1),
        ):
            text = ("signs abc\nrows 1\nnumbers duo 1 else 1 a 0\nstart s\nlot s\nway f(s, s, sign, sign)\n"
                    f"way e(none)\njudge o product\nfor f {formula}\nfor e 0")
            self.told(("total", "o"), "mixed", place, Book(read(text)))

    def test_tie_by_each_second_side(self):
        for one in ("least", "greatest"):
            for ask in (
                ("least", "m"), ("greatest", "m"), ("best", 1, "m"), ("best", 2, "m"), ("ends", 1, "j"), ("ends", 4, "j"),
                ("within", 0, "m"), ("within", 9, "m"), ("spread", "j"), ("spread", "o"), ("total", "p"), ("names", "y"),
                ("first",), ("then", ("greatest", "m"), ("first",)), ("each", "m", ("names", "y")),
                ("each", "j", ("spread", "m")), ("beside", ("spread", "j"), ("first",)),
                ("beside", ("names", "z"), ("total", "p")),
            ):
                self.told(("then", (one, "k"), ask), "tie")

    def test_tie_where_one_side_alone_sees(self):
        text = ("signs ab\nrows 1\nstart s\nlot s\nway f(s, sign)\nway e(none)\njudge k number\nfor f min(x0, 3)\nfor e 0\n"
                "judge m number\nfor f 2 * x0\nfor e 0\njudge n number\nfor f 4\nfor e 0\njudge z text\nfor f at 1\n"
                "for e\njudge y text\nfor f x0\nfor e\njudge j number\nfor f -x0\nfor e 0\n"
                "judge i number\nfor f min(-x0, -2 * x0)\nfor e 0\njudge h number\nfor f min(0, -x0)\nfor e 0")
        for ask in (
            ("against", ("least", "n"), ("greatest", "m")), ("against", ("least", "m"), ("least", "n")),
            ("against", ("greatest", "n"), ("least", "m")), ("beside", ("names", "z"), ("least", "m")),
            ("beside", ("greatest", "m"), ("names", "z")), ("each", "z", ("least", "m")), ("each", "y", ("least", "n")),
            ("each", "y", ("names", "z")), ("each", "j", ("least", "n")), ("each", "i", ("least", "n")),
            ("each", "h", ("names", "z")), ("each", "n", ("each", "m", ("names", "z"))),
            ("then", ("greatest", "m"), ("names", "z")), ("each", "n", ("then", ("least", "m"), ("names", "z"))),
        ):
            for one in ("least", "greatest"):
                self.told(("then", (one, "k"), ask), "tie", 0, Book(read(text)))

    def test_within_other_asks(self):
        for ask, fault in ((("least", "j"), "falls"), (("best", 3, "j"), "falls"), (("within", 5, "j"), "falls"),
                           (("within", 5, "k"), "flat"), (("ends", 2, "n"), "bends"), (("total", "o"), "mixed"),
                           (("against", ("least", "j"), ("greatest", "m")), "falls"),
                           (("then", ("least", "k"), ("names", "y")), "tie"),
                           (("then", ("greatest", "k"), ("total", "p")), "tie"),
                           (("then", ("greatest", "j"), ("names", "z")), "falls")):
            judges = judges_of(ask)
            free = [judge for judge in ("m", "j", "k", "n") if judge not in judges]
            self.told(("each", free[0], ask), fault)
            self.told(("each", "y" if "y" not in judges else "z", ask), fault)
            self.told(("beside", ask, ("spread", free[0])), fault)
            self.told(("beside", ("spread", free[0]), ask), fault)
            if "m" not in judges:
                self.told(("then", ("least", "m"), ask), fault)
                self.told(("then", ("greatest", "m"), ("each", free[1], ask)), fault)
                self.told(("each", free[1], ("then", ("least", "m"), ("beside", ("first",), ask))), fault)

    def test_then_of_a_first_side_that_falls(self):
        for ask in (("then", ("least", "j"), ("first",)), ("then", ("greatest", "j"), ("total", "o")),
                    ("then", ("least", "n"), ("each", "k", ("names", "z")))):
            self.told(ask, "falls")

    def test_names_that_the_book_has(self):
        text = ("signs ab\nrows 1\nstart s\nlot s\nway v0(s, t1, s)\nway v1(none)\nlot t1\nway v2(none)\nway v3(none)\n"
                "judge j number\nfor v0 -x0\nfor v1 0\nfor v2 1\nfor v3 2")
        book = Book(read(text))
        self.same(self.look(book, ("best", 4, "j"))[1:], ("v0", 0, "falls"))
        self.same(self.look(book, ("within", 0, "j"))[1:], ("v0", 0, "falls"))

    def test_many_parts_and_signs(self):
        text = ("signs abcdef\nrows 2\nstart s\nlot s\nway f(sign / sign, sign / none, s, sign / sign, none / sign)\n"
                "way e(none / none)\njudge j number\nfor f -x2\nfor e 0\njudge o product\nfor f x2 * x2\nfor e 0")
        self.told(("least", "j"), "falls", 2, Book(read(text)))
        self.told(("total", "o"), "mixed", 2, Book(read(text)))
        text = ("signs ab\nrows 1\nstart s\nlot s\nway f(s, s, s, s, s)\nway e(none)\njudge o product\n"
                "for f x0 * x1 * x2 * x3 * x4 * x4\nfor e 0")
        self.told(("total", "o"), "mixed", 4, Book(read(text)))

    def test_drawn_programs(self):
        faults = {}
        for seed in range(400):
            program = ShapeDraw(seed) if seed % 2 else BookDraw(seed)
            if seed % 3 == 0:
                program.small = lambda draw=program: draw.random.randint(0, 2)
            book = Book(program.program())
            for number in range(3):
                draw = AskDraw(3 * seed + number, {"j": "number", "k": "number", "o": "product", "z": "text"})
                border = self.look(book, draw.ask(number + seed % 2))
                fault = None if border is None else border[3]
                faults[fault] = faults.get(fault, 0) + 1
        self.assertEqual(set(faults), {None, "falls", "bends", "flat", "mixed", "tie"})
        self.assertGreater(min(faults.values()), 4)


class Kin(Case):
    ASK = ("then", ("least", "worth"), ("names", "told"))

    def told(self, wanted, change, ask=ASK):
        """Whether PAIR with some texts in the place of others is kin to PAIR."""
        text = PAIR
        for one, other in change:
            self.assertIn(one, text)
            text = text.replace(one, other)
        self.same(is_kin(Book(read(PAIR)), Book(read(text)), ask), wanted)

    def test_the_same_and_other_asks_and_names(self):
        self.told(True, ())
        self.told(True, (("ask low = least worth\n", ""),))
        self.told(True, (("lot rest", "lot more"), (", rest)", ", more)")))
        self.same(is_kin(ask=self.ASK, other=Book(read(PAIR)), book=Book(read(PAIR))), True)

    def test_signs_rows_pairs_and_numbers(self):
        self.told(False, (("signs abc", "signs abcd"),))
        self.told(False, (("signs abc", "signs acb"),))
        self.told(False, (("pairs up ab bc", "pairs up ab"),))
        self.told(False, (("pairs up ab bc", "pairs up bc ab"),))
        self.told(False, (("pairs up ab bc", "pairs up ab bc\npairs more aa"),))
        self.told(False, (("cost 2 else 5", "cost 2 else 6"),))
        self.told(False, (("ba -7", "ba 7"),))
        self.told(False, (("numbers cost", "numbers more 1 else 0\nnumbers cost"),))
        one = Book(read("signs a\nrows 1\nstart s\nlot s\nway f(none)"))
        two = Book(read("signs a\nrows 2\nstart s\nlot s\nway f(none / none)"))
        self.same((is_kin(one, two, ("first",)), is_kin(two, one, ("first",))), (False, False))
        self.same((is_kin(one, one, ("first",)), is_kin(two, two, ("first",))), (True, True))

    def test_judges_and_sorts(self):
        one = Book(read("signs a\nrows 1\nstart s\nlot s\nway f(none)\njudge j number\nfor f 0\njudge k number\nfor f 0"))
        less = Book(read("signs a\nrows 1\nstart s\nlot s\nway f(none)\njudge j number\nfor f 0"))
        other = Book(read("signs a\nrows 1\nstart s\nlot s\nway f(none)\njudge k product\nfor f 0\njudge j number\nfor f 0"))
        self.same((is_kin(one, less, ("spread", "j")), is_kin(less, one, ("spread", "j"))), (True, True))
        self.same(is_kin(one, less, ("spread", "k")), False)
        self.same(is_kin(one, other, ("spread", "j")), True)
        self.same(is_kin(one, other, ("spread", "k")), False)
        self.same(is_kin(one, other, ("beside", ("spread", "j"), ("spread", "k"))), False)

    def test_formulas_of_makers_with_parts(self):
        self.told(False, (("for lone x0 + x0", "for lone x0"),))
        self.told(False, (("for lone x0 + x0", "for lone 2 * x0"),))
        self.told(False, (('for right x1 x1', 'for right x1 ""'),))
        self.told(False, (("2 * x1 - 3, -x1", "-x1, 2 * x1 - 3"),))
        # By another judge it says nothing.
        self.told(True, (("for last 1 + len 0.0 + x2", "for last x2"),))
        self.told(False, (("for last 1 + len 0.0 + x2", "for last x2"),), ("least", "size"))

    def test_makers_without_parts_say_nothing(self):
        self.told(True, (("for stop 0", "for stop 9"),))
        self.told(True, (("way stop(none / none)", "way stop(sign / none)"),))
        self.told(True, (("way stop(", "way halt("), ("for stop", "for halt")))

    def test_makers_and_kinds(self):
        self.told(False, (("way lone(both)", "way sole(both)"), ("for lone", "for sole")))
        self.told(False, (("way lone(both)", "way lone(both, none / none)"),))
        self.told(False, (("left(run 1 any / none", "left(run 1 any / run 0 0"),))
        # What is no kind: letters, widths, lots and tests.
        self.told(True, (("left(run 1 any / none, rest", "left(run 0 80 / none, both"), ("sign(ab) / sign(c)", "sign / sign"),
                         (" when same 0.0 0.0 and up 0.0 0.1", "")))

    def test_a_maker_that_is_missing_in_the_other_one(self):
        less = PAIR.replace("way turn(sign(ab) / sign(c), both)\n", "")
        less = "\n".join(line for line in less.split("\n") if not line.startswith("for turn"))
        self.same(is_kin(Book(read(PAIR)), Book(read(less)), self.ASK), True)
        self.same(is_kin(Book(read(less)), Book(read(PAIR)), self.ASK), False)

    def test_other_sequences(self):
        lines = PAIR.strip().split("\n")
        at = lines.index("judge size number")
        judges = lines[at - 8:at], lines[at:at + 8]
        text = "\n".join(lines[:at - 8] + judges[1] + [judges[0][0]] + judges[0][:0:-1] + lines[at + 8:])
        other = Book(read(text))
        self.assertNotEqual(other.program, read(PAIR))
        self.same(is_kin(Book(read(PAIR)), other, ("against", ("least", "worth"), ("least", "size"))), True)
        swapped = PAIR.replace("way left(run 1 any / none, rest)\nway right(none / run 1 3, both)",
                               "way right(none / run 1 3, both)\nway left(run 1 any / none, rest)")
        self.assertNotEqual(read(swapped), read(PAIR))
        self.same(is_kin(Book(read(PAIR)), Book(read(swapped)), self.ASK), True)

    def test_true_and_false(self):
        self.assertIs(is_kin(BENDS, BENDS, ("least", "j")), True)
        self.assertIs(is_kin(BENDS, Book(read(FOLD)), ("first",)), False)
