"""[95], [96]: papers; (G11)."""

from chooseonce.bags import bag_of
from chooseonce.borders import used_border
from chooseonce.boundtables import bounds_of
from chooseonce.errors import BadRows, Refused
from chooseonce.listing import all_candidates
from chooseonce.papers import best_paper, paper_fits
from chooseonce.shapes import Shape
from chooseonce.spots import whole_spot
from chooseonce.standing import stands
from chooseonce.stretches import whole_of
from chooseonce.treevalues import judged
from tests.helping import BEND, EDGE, FOLD, TWIN, Case
from tests.shapedrawing import ringless
from tests.test_bounds import SLOPES
from tests.test_choosing import MORE
from tests.test_mending import FALLS
from tests.test_prices import shape_of
from tests.test_spots import UNMADE

LEAST, GREATEST = ("least", "worth"), ("greatest", "worth")


class Papers(Case):
    def best(self, shape, ask, rows):
        """Looks at the best paper; returns its candidate's value, None without a candidate."""
        candidate, bounds = best_paper(shape, ask, rows)
        self.assertIs(paper_fits(shape, ask, rows, (candidate, bounds)), True)
        stretch = whole_of([len(row) for row in rows])
        bag = bag_of(shape, ("spread", ask[1]), rows, shape.book.start, stretch) if shape.useful else ()
        if candidate is None:
            self.same(bag, ())
            return None
        self.assertTrue(stands(shape.book, rows, candidate, shape.book.start, stretch))
        told = judged(shape.book, ask[1], rows, candidate, stretch)
        self.same(told, min(bag) if ask[0] == "least" else max(bag))
        return told

    def test_ordinary(self):
        fold = shape_of(FOLD)
        paper = best_paper(fold, GREATEST, ("ab",))
        self.same(paper[0][1:3], (2, ((1, 0, 1, 0),)))
        self.same((paper_fits(fold, GREATEST, ("ab",), paper), paper_fits(fold, LEAST, ("ab",), paper)), (True, False))
        for row in ("", "a", "ab", "abab", "babbaa"):
            for name in ("worth", "cost", "cap"):
                self.best(shape_of(MORE), ("least", name), (row,))
                self.best(shape_of(MORE), ("greatest", name), (row,))

    def test_slopes_of_both_signs(self):
        # By one part values rise, by the other one they fall.
        shape = shape_of(SLOPES)
        told = [(self.best(shape, ("least", "j"), (row,)), self.best(shape, ("greatest", "j"), (row,)))
                for row in ("", "a", "aa", "aaa", "b")]
        self.same(told, [(0, 0), (-1, -1), (-1, -1), (-1, -1), (None, None)])
        shape = shape_of(SLOPES.replace("max(x0 - 2 * x1, -1)", "min(x0 - 2 * x1, 90)").replace("x1 + 3", "-x1 + 3"))
        for row in ("", "a", "aa", "aaa", "aaaa"):
            self.best(shape, ("least", "j"), (row,))
            self.best(shape, ("greatest", "j"), (row,))
        for row in ("", "a", "bab"):
            self.best(shape_of(FALLS), ("least", "d"), (row,))
            self.best(shape_of(FALLS), ("greatest", "d"), (row,))

    def test_which_ends_of_the_parts(self):
        # Over one sign t has the values 1, 4 and 9; n tells the value of s.
        text = "signs a\nrows 1\nstart s\nlot s\nway f(t, sign, t)\nlot t\nway g(sign)\nway h(sign(a))\nway i(run 1 1)\n" \
               "judge j number\nfor f {}\nfor g 1\nfor h 9\nfor i 4"
        for formula, least, greatest in (
                ("x0 + x2", 2, 18), ("x0 - x2", -8, 8), ("-x0 - 2 * x2", -27, -3), ("max(4, 5 - x0, 0 * x2)", 4, 4),
                ("max(x2, 6 - x0)", 1, 9), ("min(3 + 0 * x0, 9 - x0, -x2)", -9, -1), ("max(2, x0)", 2, 9),
                ("max(-5, -x0)", -5, -1), ("x0 - x0", 0, 0)):
            shape = shape_of(text.format(formula))
            self.same((self.best(shape, ("least", "j"), ("aaa",)), self.best(shape, ("greatest", "j"), ("aaa",))),
                      (least, greatest))

    def test_refused(self):
        bend = shape_of(BEND)
        # The border of the greatest is not used, nor is that of the ends.
        self.best(bend, ("greatest", "k"), ("ab",))
        live = shape_of(BEND.replace("pairs odd ab", "pairs odd aa"))
        for ask in (("least", "k"), ("greatest", "k")):
            self.raises(Refused("g", 1, "bends"), best_paper, live, ask, ("ab",))
        self.best(live, ("least", "j"), ("ab",))

    def test_without_a_candidate(self):
        pair = shape_of("signs a\nrows 2\nstart s\nlot s\nway up(sign / none)\nway down(none / sign)\n"
                        "judge j number\nfor up 1\nfor down 2")
        spot = ("s", ((0, 1), (0, 1)))
        self.same(best_paper(pair, ("least", "j"), ("a", "a")), (None, ((spot, None),)))
        self.same(best_paper(pair, ("least", "j"), ("aa", "a")), (None, ()))
        unmade = shape_of(UNMADE + "\njudge j number\nfor f x1\nfor e 0")
        self.same(best_paper(unmade, ("greatest", "j"), ("aa",)), (None, ()))
        # Neither a bound left out nor a pair tells that there is none.
        fits = lambda paper: paper_fits(pair, ("least", "j"), ("a", "a"), paper)
        self.same([fits((None, told)) for told in (((spot, None),), (), ((spot, (0, 0)),))], [True, False, False])
        self.same(fits((("s", 0, ((1,), (0,)), ()), ((spot, (1, 1)),))), False)
        # Without a whole spot there is nothing to tell.
        self.same(paper_fits(pair, ("least", "j"), ("", ""), (None, ())), True)
        self.same(paper_fits(pair, ("least", "j"), ("", ""), (("s", 0, ((0,), (0,)), ()), ())), False)
        self.same(paper_fits(unmade, ("least", "j"), ("aa",), (None, ())), True)
        self.same(paper_fits(unmade, ("least", "j"), ("aa",), (None, ((("s", ((0, 2),)), None),))), False)

    def test_papers_that_do_not_fit(self):
        fold, rows = shape_of(FOLD), ("ab",)
        tree, bounds = best_paper(fold, GREATEST, rows)
        whole = bounds[5][0]
        fits = lambda candidate, told: paper_fits(fold, GREATEST, rows, (candidate, told))
        self.same(fits(tree, bounds), True)
        self.same(fits(tree, bounds[::-1]), True)
        self.same(fits(tree, bounds[:5]), False)
        self.same(fits(tree, bounds[:5] + ((whole, (0, 2)),)), False)
        self.same(fits(tree, bounds[:5] + ((whole, (-9, 1)),)), True)
        self.same(fits(tree, bounds[:5] + ((whole, None),)), False)
        self.same(fits(tree, bounds[:5] + ((whole, (1, 1)),)), False)
        self.same(fits(tree, bounds + (bounds[5],)), False)
        self.same(fits(None, bounds), False)
        # A candidate of another value; of another lot or stretch; with letters or tests that do not hold.
        plain = all_candidates(fold, rows)[0]
        self.same((fits(plain, bounds), paper_fits(fold, LEAST, rows, (plain, bounds))), (False, True))
        self.same(fits(tree[3][0], bounds), False)
        self.same(fits(("fool",) + tree[1:], bounds), False)
        for row in ("aa", "bb"):
            told = bounds_of(fold, "worth", (row,))
            wide = told[:5] + ((whole, (0, 1)),)
            self.same(paper_fits(fold, GREATEST, (row,), (tree, wide)), False)
            self.same(paper_fits(fold, ("greatest", "worth"), (row,), (tree, told)), False)
        edge = shape_of(EDGE + "\njudge j number\nfor cover 0\nfor skip 0\nfor more 0\nfor one 0\nfor two 0\nfor odd 0\n"
                        "for loop 0\nfor last 0")
        tree = best_paper(edge, ("least", "j"), ("ba",))[0]
        bounds = bounds_of(edge, "j", ("ba",))
        self.same(paper_fits(edge, ("least", "j"), ("ba",), (tree, bounds)), True)
        # Over bb the same tree breaks a letter alone.
        same = tuple((spot, (0, 0)) for spot, _ in bounds_of(edge, "j", ("bb",)))
        self.same(paper_fits(edge, ("least", "j"), ("bb",), (tree, same)), False)

    def test_two_rows(self):
        twin = shape_of(TWIN)
        for rows in (("", ""), ("a", "b"), ("ab", "ab"), ("aab", "ab")):
            for ask in (LEAST, GREATEST):
                self.best(twin, ask, rows)

    def test_drawn_programs(self):
        fitting = 0
        for draw, book in ringless(range(200)):
            shape, rows = Shape(book), draw.drawn_rows()
            for ask in (("least", "j"), ("greatest", "k")):
                border = used_border(shape, ("ends", 1, ask[1]))
                if border is not None:
                    self.raises(Refused(*border[1:]), best_paper, shape, ask, rows)
                else:
                    fitting += self.best(shape, ask, rows) is not None
                    self.look_for_others(shape, ask, rows)
        self.assertGreater(fitting, 40)

    def look_for_others(self, shape, ask, rows):
        """Of all candidates just those with the best value fit."""
        tree, bounds = best_paper(shape, ask, rows)
        whole = whole_spot(shape, tuple(len(row) for row in rows))
        for other in all_candidates(shape, rows):
            wanted = judged(shape.book, ask[1], rows, other, whole[1]) == judged(shape.book, ask[1], rows, tree, whole[1])
            self.same(paper_fits(shape, ask, rows, (other, bounds)), wanted)

    def test_rows(self):
        fold = shape_of(FOLD)
        self.raises(BadRows(0), best_paper, fold, GREATEST, ("c",))
        self.raises(BadRows(-1), paper_fits, fold, GREATEST, ("a", "b"), (None, ()))
        live = shape_of(BEND.replace("pairs odd ab", "pairs odd aa"))
        self.raises(BadRows(0), best_paper, live, ("least", "k"), ("c",))
