"""[26], [4]: the looks at formulas and asks."""

from chooseonce.errors import BadAsk, BadRef, Missing, NoName, TwiceNamed
from chooseonce.formulalooks import look_asks, look_formulas
from chooseonce.programs import read
from tests.helping import FOLD, PAIR, Case

HEAD = ["signs ab", "rows 1", "numbers one1 1 else 0", "numbers two 2 else 0", "start s", "lot s",
        "way f(sign, s, run 0 1, none, sign, s)", "way g(s)"]
PAIR_HEAD = ["signs ab", "rows 2", "numbers one1 1 else 0", "numbers two 2 else 0", "start s",
             "lot s", "way f(sign / run 0 1, s, none / sign)"]


def with_lines(*lines):
    return read("\n".join(HEAD + list(lines)))


class Formulas(Case):
    def refused(self, error, *lines):
        self.raises(error, look_formulas, with_lines(*lines))

    def test_as_the_document_prints_it(self):
        program = read(FOLD.replace("1 + x1 + x3", "1 + x1 + x2"))
        self.raises(BadRef("bond"), look_formulas, program)
        self.raises(Missing("ways", "stop"), look_formulas, read(FOLD.replace("for stop 1", "")))

    def test_without_a_breach(self):
        self.same(look_formulas(read(FOLD)), None)
        self.same(look_formulas(program=read(PAIR)), None)
        self.same(look_formulas(with_lines()), None)

    def test_what_may_stand(self):
        for sort, formula in (
            ("number", "1 + x1 - x5 + one1[0] + two[4, 0] + two[0, 0] + len 2 + x1"),
            ("number", "min(x1, one1[4], len 2)"),
            ("product", "one1[0] * two[0, 4] * x1 * x5 * x5 - 3"),
            ("text", '"ab" x1 x5 x1 at 0 at 2 at 3 at 4'), ("text", ""),
        ):
            program = with_lines("judge j " + sort, "for f " + formula,
                                 "for g " + ("" if sort == "text" else "0"))
            self.same(look_formulas(program), None)

    def test_what_may_stand_on_two_rows(self):
        for sort, formula in (
            ("number", "x1 + one1[0.0] - one1[2.1] + two[0.0, 2.1] + len 0.1"),
            ("product", "two[2.1, 0.0] * x1"),
            ("text", "at 0.0 at 0.1 x1 at 2.0 at 2.1"),
        ):
            lines = PAIR_HEAD + ["judge j " + sort, "for f " + formula]
            self.same(look_formulas(read("\n".join(lines))), None)

    def test_places_that_are_no_parts(self):
        for place in (0, 2, 3, 4, 6, 9):
            for sort, formula in (("number", f"x1 + x{place}"), ("product", f"x1 * x{place}"),
                                  ("text", f"x1 x{place}"), ("number", f"max(1, x{place})")):
                self.refused(BadRef("f"), "judge j " + sort, "for f " + formula)

    def test_refs_that_fit_no_place(self):
        for ref in (0, 1, 3, 4, 6, 12):
            self.refused(BadRef("f"), "judge j number", f"for f len {ref}")
        for ref in (1, 2, 3, 5, 6, 12):
            self.refused(BadRef("f"), "judge j number", f"for f one1[{ref}]")
            self.refused(BadRef("f"), "judge j number", f"for f two[0, {ref}]")
            self.refused(BadRef("f"), "judge j product", f"for f two[{ref}, 4]")
        for ref in (1, 5, 6, 12):
            self.refused(BadRef("f"), "judge j text", f"for f at {ref}")

    def test_refs_that_fit_no_place_on_two_rows(self):
        for sort, formula in (
            ("number", "len 0.0"), ("number", "len 2.1"), ("number", "len 1.0"),
            ("number", "len 3.0"), ("number", "one1[0.1]"), ("number", "two[0.0, 2.0]"),
            ("product", "one1[1.1]"), ("product", "one1[3.1]"), ("text", "at 1.0"),
            ("text", "at 1.1"), ("text", "at 3.0"), ("number", "x0"), ("text", "x2"),
        ):
            lines = PAIR_HEAD + ["judge j " + sort, "for f " + formula]
            self.raises(BadRef("f"), look_formulas, read("\n".join(lines)))

    def test_as_many_refs_as_the_width(self):
        for formula in ("one1[0, 0]", "two[0]", "two[0, 0, 0]", "one1[0, 4, 0]"):
            self.refused(BadRef("f"), "judge j number", "for f " + formula)
            self.refused(BadRef("f"), "judge j product", "for f " + formula)

    def test_names_of_numbers(self):
        self.refused(NoName("no"), "judge j number", "for f no[0]")
        self.refused(NoName("no"), "judge j number", "for f no[7, 7, 7]")
        self.refused(NoName("no"), "judge j product", "for f no[0]")
        self.refused(NoName("s"), "judge j product", "for f s[0]")

    def test_from_left_to_right(self):
        self.refused(NoName("no"), "judge j number", "for f x1 + no[0] + x0")
        self.refused(BadRef("f"), "judge j number", "for f x1 + x0 + no[0]")
        self.refused(BadRef("f"), "judge j number", "for f max(x0, no[0])")
        self.refused(NoName("a"), "judge j number", "for f max(a[0], b[0] + x0)")
        self.refused(NoName("a"), "judge j number", "for f max(1, a[0], b[0])")
        self.refused(BadRef("f"), "judge j product", "for f x0 + no[0]")
        self.refused(NoName("a"), "judge j product", "for f a[0] * b[0] - x0")

    def test_in_a_triple_the_nums_first(self):
        self.refused(NoName("no"), "judge j product", "for f x0 * no[0]")
        self.refused(NoName("no"), "judge j product", "for f x1 - x0 * no[0]")

    def test_makers(self):
        self.refused(NoName("no"), "judge j number", "for no x0 + a[0]", "for f x0")
        self.refused(TwiceNamed("f"), "judge j number", "for f 1", "for f 1", "for s 1")
        self.refused(TwiceNamed("f"), "judge j number", "for f 1", "for f x0 + a[0]", "for no 1")
        self.refused(TwiceNamed("f"), "judge j number", "for f 1", "for g 1", "for f 1")
        self.refused(NoName("s"), "judge j number", "for f 1", "for s 1")

    def test_makers_by_each_judge(self):
        judge = ["judge j number", "for g 1", "for f 1"]
        self.same(look_formulas(with_lines(*judge, *judge)), None)
        self.refused(TwiceNamed("g"), *judge, "judge j number", "for g 1", "for g 1")
        self.refused(BadRef("f"), *judge, "judge j text", "for f x0")

    def test_missing(self):
        self.refused(Missing("j", "f"), "judge j number")
        self.refused(Missing("j", "f"), "judge j number", "for g 1")
        self.refused(Missing("k", "g"), "judge j number", "for g 1", "for f 1", "judge k text", "for f")
        self.refused(Missing("j", "g"), "judge j number", "for f 1", "judge j number", "for no 1")
        self.refused(BadRef("f"), "judge j number", "for f x0", "judge k number")

    def test_missing_by_the_sequence_in_the_ways(self):
        lines = ("way c(s)", "lot t", "way b(s)", "way c(s)", "lot s", "way a(s)")
        every = ["for f 0", "for g 0", "for a 0", "for b 0", "for c 0"]
        self.refused(Missing("j", "f"), *lines, "judge j number")
        self.refused(Missing("j", "g"), *lines, "judge j number", "for f 0")
        self.refused(Missing("j", "c"), *lines, "judge j number", "for f 0", "for g 0")
        self.refused(Missing("j", "b"), *lines, "judge j number", "for f 0", "for g 0", "for c 0")
        self.refused(Missing("j", "a"), *lines, "judge j number", "for c 0", "for f 0", "for g 0",
                     "for b 0")
        self.same(look_formulas(with_lines(*lines, "judge j number", *every)), None)

    def test_kinds_by_the_first_way(self):
        self.refused(BadRef("g"), "way g(none, s)", "judge j number", "for f 1", "for g x1")
        program = with_lines("way g(none, s)", "judge j number", "for f 1", "for g x0")
        self.same(look_formulas(program), None)

    def test_widths_by_the_first_numbers(self):
        head = HEAD[:4] + ["numbers two 1 else 0", "numbers one1 2 else 0"] + HEAD[4:]
        good = head + ["judge j number", "for f two[0, 4] + one1[0]", "for g 0"]
        self.same(look_formulas(read("\n".join(good))), None)
        for formula in ("two[0]", "one1[0, 4]"):
            bad = head + ["judge j number", "for f " + formula, "for g 0"]
            self.raises(BadRef("f"), look_formulas, read("\n".join(bad)))

    def test_it_looks_at_nothing_else(self):
        program = with_lines("way h(no) when no 7 7", "lot s", "way f(sign(z))", "judge j text",
                             "for h", "for g", "for f", "ask a = least no", "ask a = first")
        self.same(look_formulas(program), None)


SORTS = {
    "least": "number", "greatest": "number", "best 1": "number", "ends 1": "number",
    "within 0": "number", "spread": "number product", "total": "product", "names": "text",
}


class Asks(Case):
    def program(self, *asks):
        judges = ["judge n number", "judge n2 number", "judge p product", "judge p2 product",
                  "judge t text", "judge t2 text"]
        asks = [f"ask a{at} = {ask}" for at, ask in enumerate(asks)]
        return with_lines(*judges, *asks)

    def let(self, ask):
        self.same(look_asks(self.program(ask)), None)

    def refused(self, ask):
        self.raises(BadAsk("a1"), look_asks, self.program("first", ask, "(first then first)"))

    def test_as_the_document_prints_it(self):
        program = read(FOLD.replace("worth then", "worth against"))
        self.raises(BadAsk("how"), look_asks, program)

    def test_without_a_breach(self):
        self.same(look_asks(read(FOLD)), None)
        self.same(look_asks(program=read(PAIR)), None)
        self.same(look_asks(with_lines()), None)
        self.let("first")

    def test_sorts_of_basic_asks(self):
        for how, sorts in SORTS.items():
            for sort, judge in (("number", "n"), ("product", "p"), ("text", "t")):
                if sort in sorts:
                    self.let(how + " " + judge)
                else:
                    self.refused(how + " " + judge)

    def test_sorts_of_each(self):
        self.let("(each n first)")
        self.let("(each t first)")
        self.refused("(each p first)")

    def test_sorts_at_any_depth(self):
        self.let("(each n (each t (first beside total p)))")
        self.refused("(each n (each t (first beside total t2)))")
        self.refused("(each n (each p first))")
        self.refused("((names n beside first) beside least n2)")
        self.refused("(least n then (least n2 then names p))")
        self.refused("(least t then first)")
        self.refused("(least n against least t)")

    def test_the_first_side_of_then(self):
        for how in ("least n", "greatest n"):
            for other in ("first", "total p", "(each t least n2)", "(least n2 then names t)"):
                self.let(f"({how} then {other})")
        for how in ("best 1 n", "ends 1 n", "within 0 n", "spread n", "total p", "names t", "first",
                    "(least n then least n2)", "(each n least n2)", "(least n beside least n2)"):
            self.refused(f"({how} then names t2)")
            self.refused(f"(each t2 ({how} then spread p2))")

    def test_both_sides_of_against(self):
        for one in ("least", "greatest"):
            for other in ("least", "greatest"):
                self.let(f"({one} n against {other} n2)")
        for how in ("best 1 n", "ends 1 n", "within 0 n", "spread n", "total p", "names t", "first",
                    "(each t least n)", "(least n then first)"):
            self.refused(f"({how} against least n2)")
            self.refused(f"(least n2 against {how})")

    def test_sides_of_beside(self):
        for one in ("first", "best 1 n", "names t", "(each t least n)", "(least n against least n2)"):
            self.let(f"({one} beside total p)")
            self.let(f"(total p beside {one})")

    def test_judges_that_stand_twice(self):
        self.refused("(least n then greatest n)")
        self.refused("(each n best 2 n)")
        self.refused("(names t beside (least n then names t))")
        self.refused("((each n names t) beside (each t total p))")
        self.refused("(greatest n against greatest n)")
        self.refused("(total p beside spread p)")

    def test_first_twice(self):
        self.refused("(first beside first)")
        self.refused("(least n then ((each n2 first) beside (total p beside first)))")
        self.let("(least n then ((each n2 first) beside (total p beside names t)))")

    def test_names_that_are_no_judges(self):
        for ask in ("least no", "(each no first)", "(least n then total no)",
                    "(least no then total no2)", "(first beside (first beside least no))",
                    "(names n beside least no)", "(least n against (each no least n))"):
            self.raises(NoName("no"), look_asks, self.program("first", ask, "least no3"))
        self.raises(NoName("f"), look_asks, self.program("least f"))

    def test_ask_by_ask(self):
        self.raises(BadAsk("a0"), look_asks, self.program("least p", "least no", "least t"))
        self.raises(NoName("no"), look_asks, self.program("least n", "least no", "least t"))

    def test_sorts_by_the_first_judge(self):
        lines = ["judge j number", "judge j text", "judge k text", "judge k number"]
        self.same(look_asks(with_lines(*lines, "ask a = least j", "ask b = names k")), None)
        self.raises(BadAsk("a"), look_asks, with_lines(*lines, "ask a = names j"))

    def test_asks_that_stand_twice(self):
        self.raises(BadAsk("a"), look_asks,
                    with_lines("judge j text", "ask a = first", "ask a = total j"))

    def test_deep_asks(self):
        judges = [f"judge d{at} number" for at in range(101)]
        for last, error in (("least d100", None), ("total d100", BadAsk("a"))):
            ask = last
            for at in range(100):
                ask = f"(each d{at} {ask})"
            program = with_lines(*judges, "ask a = " + ask)
            if error is None:
                self.same(look_asks(program), None)
            else:
                self.raises(error, look_asks, program)

    def test_it_looks_at_nothing_else(self):
        program = with_lines("way f(no) when no 7 7", "lot s", "way f(sign(z))", "judge j text",
                             "for no x1", "judge j text", "ask a = names j", "ask a = first")
        self.same(look_asks(program), None)
