"""[20], [21]: the texts of programs and of their parts, there and back."""

from chooseonce.askreading import read_ask
from chooseonce.formreading import read_formula
from chooseonce.programs import read
from chooseonce.showing import shown
from chooseonce.shownparts import shown_ask, shown_formula, shown_ref, shown_way
from chooseonce.wayreading import read_way
from tests.bookdrawing import BookDraw
from tests.drawing import Draw
from tests.helping import FOLD, PAIR, Case


class Parts(Case):
    def test_as_the_document_prints_it(self):
        formula = ("min", (((-2, ("part", 0)), (1, ("one",))), ((0, ("len", (1, 0))),)))
        self.same(shown_formula("number", 1, formula), "min(-2 * x0 + 1, 0 * len 1)")

    def test_refs(self):
        self.same(shown_ref(1, (12, 0)), "12")
        self.same(shown_ref(2, (12, 0)), "12.0")
        self.same(shown_ref(rows=2, ref=(0, 1)), "0.1")

    def test_ways_stay_as_they_are(self):
        for text in (
            "way f(g)", "way f(sign)", "way f(sign(ab), none, g, run 0 any, run 2 13)",
            "way bond(sign, fold, sign) when mate 0 2", "way f(sign) when p 0 0 and q 0 12 and p 0 0",
        ):
            self.same(shown_way(1, read_way(1, text)), text)
        for text in (
            "way f(g)", "way f(sign / none, g, run 3 any / sign(c))",
            "way f(sign(ab) / sign(b), g) when p 0.0 0.1 and q 10.1 0.0",
        ):
            self.same(shown_way(2, read_way(2, text)), text)
        self.same(shown_way(way=("f", (("lot", "g"),), ()), rows=1), "way f(g)")

    def test_formulas_stay_as_they_are(self):
        for sort, rows, text in (
            ("number", 1, "0"), ("number", 1, "-1"), ("number", 1, "-12 + x1 - x2 - 3 * len 0"),
            ("number", 1, "-x0 + 1"), ("number", 1, "-2 * x0 + 0 * x1 + 0"),
            ("number", 1, "w[0, 12] - 2 * v[0]"), ("number", 2, "w[0.1, 12.0] - len 3.1"),
            ("number", 1, "min(-x1, 2)"), ("number", 1, "max(x1 + x1, -1 - 2, len 0)"),
            ("product", 1, "1"), ("product", 1, "-1"), ("product", 1, "-3 + x1 - x1 * x1"),
            ("product", 1, "-w[0] * x1 * x2 + 2 * v[0, 1] * w[3] + 0 * x1 - 3"),
            ("product", 2, "w[0.0] * w[0.1, 1.0] * x0"),
            ("text", 1, ""), ("text", 1, 'x0 "" at 12 "a b" x0'), ("text", 2, "at 0.1 at 12.0"),
        ):
            self.same(shown_formula(sort, rows, read_formula(sort, rows, text)), text)
        self.same(shown_formula(formula=(), rows=1, sort="text"), "")

    def test_formulas_as_they_are_shown_best(self):
        for sort, text, best in (
            ("number", "1 * x1 - 1 * x2", "x1 - x2"), ("number", "-0 + 1", "0 + 1"),
            ("number", "-1 * x1", "-x1"), ("number", "x1 - 0", "x1 + 0"), ("number", "x1 - 0 * x2", "x1 + 0 * x2"),
            ("product", "x2 * w[0] * x1 * v[0]", "w[0] * v[0] * x1 * x2"),
            ("product", "1 * x1 * x0", "x0 * x1"), ("product", "- 1 * w[0]", "-w[0]"), ("product", "x1 - 0", "x1 + 0"),
            ("text", 'x1"a"at 0', 'x1 "a" at 0'),
        ):
            self.same(shown_formula(sort, 1, read_formula(sort, 1, text)), best)

    def test_asks_stay_as_they_are(self):
        for text in (
            "least j", "greatest j", "spread j", "total j", "names j", "best 1 j", "ends 12 j",
            "within 0 j", "first", "(each j first)", "(least j then total k)",
            "(least j beside first)", "(least j against greatest k)",
            "(((each k best 2 j) then (each j (first beside first))) against names t)",
        ):
            self.same(shown_ask(read_ask(text)), text)
        self.same(shown_ask(ask=("first",)), "first")

    def test_deep_asks(self):
        for left, right in (("(each k ", ")"), ("(least j then ", ")"), ("(", " beside least j)")):
            text = left * 100 + "first" + right * 100
            self.same(shown_ask(read_ask(text)), text)


class Programs(Case):
    def test_fold_and_pair_stay_as_they_are(self):
        self.same(shown(read(FOLD)), FOLD + "\n")
        self.same(shown(program=read(PAIR)), PAIR)

    def test_numbers_and_empty_text_formulas(self):
        text = ("signs zab\nrows 2\nnumbers n 1 else -3 a -1 b 0 z 12\nnumbers m 2 else 0\nstart s\n"
                "lot s\nway f(sign / sign)\njudge t text\nfor f\njudge u text\n")
        self.same(shown(read(text)), text)

    def test_without_judges_and_asks(self):
        text = "signs a\nrows 1\nstart s\nlot s\nway f(s)\nway g(sign(a))\nlot t\nway f(t)\n"
        self.same(shown(read(text)), text)

    def test_asks_without_judges(self):
        text = "signs a\nrows 1\nstart s\nlot s\nway f(sign)\nask one = first\n"
        self.same(shown(read(text)), text)


class Drawn(Case):
    """read(shown(t)) is t, and shown(read(text)) is the text if it was shown."""

    def test_programs_there_and_back(self):
        for seed in range(300):
            program = Draw(seed).program()
            text = shown(program)
            self.same(read(text), program)
            self.same(shown(read(text)), text)
        for seed in range(100):
            program = BookDraw(seed).program()
            self.same(read(shown(program)), program)

    def test_parts_there_and_back(self):
        for seed in range(300):
            draw = Draw(seed)
            way, ask = draw.way(), draw.ask(4)
            self.same(read_way(draw.rows, shown_way(draw.rows, way)), way)
            self.same(read_ask(shown_ask(ask)), ask)
            for sort in ("number", "product", "text"):
                formula = draw.formula(sort)
                text = shown_formula(sort, draw.rows, formula)
                self.same(read_formula(sort, draw.rows, text), formula)

    def test_blanks_at_all_places_where_they_say_nothing(self):
        for seed in range(60):
            program = Draw(seed).program()
            lines = [self.spread_out(line) for line in shown(program).split("\n")]
            self.same(read("\n  \n".join(lines)), program)

    def spread_out(self, line):
        """The line with more blanks around its marks, but for those in quotes."""
        parts = line.split('"')
        for at in range(0, len(parts), 2):
            for mark in "()[],/=*+-.":
                parts[at] = parts[at].replace(mark, "  " + mark + " ")
        return " " + '"'.join(parts) + "  "
