"""[25]: the looks at names in ways, at kinds and at the refs of tests."""

from chooseonce.errors import BadMaker, BadRef, NoName
from chooseonce.programs import read
from chooseonce.reflooks import look_makers, look_mentions, look_tests
from tests.helping import FOLD, PAIR, Case

LOOKS = (look_mentions, look_makers, look_tests)


def small(*ways, rows=1, pairs="pairs p aa", start="s"):
    return read("\n".join(["signs ab", f"rows {rows}", pairs, f"start {start}", "lot s", *ways]))


class RefLooks(Case):
    def test_without_a_breach(self):
        for look in LOOKS:
            self.same(look(read(FOLD)), None)
            self.same(look(program=read(PAIR)), None)


class Mentions(Case):
    def test_as_the_document_prints_it(self):
        program = read(FOLD.replace("(sign, fold)", "(sign, rest)"))
        self.raises(NoName("rest"), look_mentions, program)

    def test_start(self):
        self.raises(NoName("f"), look_mentions, small("way f(no)", start="f"))
        self.raises(NoName("p"), look_mentions, small("way f(sign)", start="p"))

    def test_lots_then_pairs_way_by_way(self):
        self.raises(NoName("a"), look_mentions, small("way f(s, a, b) when q 0 0", "way g(c)"))
        self.raises(NoName("b"), look_mentions, small("way f(s, b) when q 0 0", "way g(c)"))
        self.raises(NoName("q"), look_mentions, small("way f(s) when p 0 0 and q 0 0", "way g(c)"))
        self.raises(NoName("c"), look_mentions, small("way f(s)", "lot t", "way g(c)"))
        self.raises(NoName("r"), look_mentions,
                    small("way f(s)", "lot t", "way g(t, s) when p 0 0 and r 0 0 and q 0 0"))

    def test_names_of_other_lists_do_not_count(self):
        self.raises(NoName("p"), look_mentions, small("way f(p)"))
        self.raises(NoName("f"), look_mentions, small("way f(f)"))
        self.raises(NoName("s"), look_mentions, small("way f(sign) when s 0 0"))
        program = small("way f(sign) when n 0 0", pairs="numbers n 1 else 0")
        self.raises(NoName("n"), look_mentions, program)

    def test_later_lots_and_names_that_stand_twice(self):
        self.same(look_mentions(small("way f(t)", "lot t", "way f(s)")), None)
        program = small("way f(s)", "lot s", "way f(s)", "lot s", "way f(s, t)")
        self.raises(NoName("t"), look_mentions, program)

    def test_it_looks_at_nothing_else(self):
        program = small("way f(s) when p 7 7", "way f(sign, s)", "lot s", "way f(sign(z))",
                        "judge j text", "for no x1", "ask a = least no", "ask a = first")
        self.same(look_mentions(program), None)


class Makers(Case):
    def test_as_the_document_prints_it(self):
        program = read(FOLD.replace("stop(none)", "free(none)"))
        self.raises(BadMaker("free"), look_makers, program)

    def test_the_same_kinds(self):
        self.same(look_makers(small("way f(sign(a), s, run 0 1)", "way f(sign, t, run 2 any)",
                                    "way g(s)", "lot t", "way f(sign(b), s, run 1 1) when p 0 0")),
                  None)

    def test_other_kinds(self):
        for piece in ("none", "run 0 1", "s", "sign, none"):
            self.raises(BadMaker("f"), look_makers,
                        small("way f(sign)", "way g(s)", "way f(" + piece + ")"))
        for piece in ("sign / none", "none / sign", "sign / run 0 1", "s", "sign / sign, s"):
            self.raises(BadMaker("f"), look_makers,
                        small("way f(sign / sign)", "way f(" + piece + ")", rows=2))

    def test_in_any_lot(self):
        self.raises(BadMaker("f"), look_makers,
                    small("way f(s)", "way f(s)", "lot t", "way g(none)", "way f(none)"))
        self.raises(BadMaker("f"), look_makers, small("way f(s)", "lot s", "way f(none)"))

    def test_the_first_one_is_told(self):
        self.raises(BadMaker("g"), look_makers,
                    small("way f(s)", "way g(s)", "way g(none)", "way f(none)"))

    def test_it_looks_at_nothing_else(self):
        program = small("way f(no) when no 7 7", "way f(s)", "lot s", "way g(sign(z))",
                        "judge j text", "for no x1", "ask a = least no", "ask a = first")
        self.same(look_makers(program), None)


class Tests(Case):
    def test_as_the_document_prints_it(self):
        self.raises(BadRef("bond"), look_tests, read(FOLD.replace("mate 0 2", "mate 0 1")))

    def test_what_is_no_sign_place(self):
        for ref in (0, 2, 3, 4, 12):
            for refs in (f"{ref} 1", f"1 {ref}", f"{ref} {ref}"):
                self.raises(BadRef("f"), look_tests,
                            small("way f(none, sign, s, run 1 1) when p " + refs))
        self.same(look_tests(small("way f(none, sign, s) when p 1 1")), None)

    def test_on_two_rows(self):
        way = "way f(sign / none, s, run 0 1 / sign) when p "
        self.same(look_tests(small(way + "0.0 2.1 and p 0.0 0.0", rows=2)), None)
        for ref in ("0.1", "1.0", "1.1", "2.0", "3.0", "3.1"):
            self.raises(BadRef("f"), look_tests, small(way + "0.0 " + ref, rows=2))
            self.raises(BadRef("f"), look_tests, small(way + ref + " 2.1", rows=2))

    def test_each_test_of_each_way(self):
        good = "way g(sign, sign) when p 0 1 and p 1 1"
        self.raises(BadRef("f"), look_tests, small(good, "way f(sign) when p 0 0 and p 0 1", good))
        self.raises(BadRef("f"), look_tests,
                    small(good, "lot t", good, "way f(sign) when p 1 0", "way h(s) when p 0 0"))

    def test_by_the_kinds_of_the_way_itself(self):
        self.raises(BadRef("f"), look_tests, small("way f(sign)", "way f(none) when p 0 0"))
        self.same(look_tests(small("way f(none)", "way f(sign) when p 0 0")), None)

    def test_it_looks_at_nothing_else(self):
        program = small("way f(no)", "way f(sign) when no 0 0", "lot s", "way g(sign(z))",
                        "judge j text", "for no x1", "ask a = least no", "ask a = first")
        self.same(look_tests(program), None)
