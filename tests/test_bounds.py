"""[92] to [94], [96]: bounds of formulas and of spots, and bounds as papers; (G11)."""

import random

from chooseonce.bags import bag_of
from chooseonce.books import Book
from chooseonce.borders import used_border
from chooseonce.boundchecks import bounds_fit
from chooseonce.boundtables import bounds_of
from chooseonce.boxbounds import form_bounds, formula_bounds
from chooseonce.errors import BadRows
from chooseonce.formvalues import number_value
from chooseonce.programs import read
from chooseonce.shapes import Shape
from chooseonce.spots import spots_of
from tests.bookdrawing import BookDraw
from tests.helping import BEND, EDGE, FOLD, TWIN, Case
from tests.reckoning import dress_at, looks
from tests.shapedrawing import ringless
from tests.test_mending import FALLS
from tests.test_prices import shape_of
from tests.test_spots import UNMADE

UP, DOWN = ((1, ("part", 0)),), ((2, ("part", 0)), (-3, ("part", 0)))

# Values fall with one part and rise with the other one; over b alone there is nothing of lot t.
SLOPES = """signs ab
rows 1
start s
lot s
way f(s, t)
way e(none)
lot t
way g(sign(a))
way h(sign(a), t)
judge j number
for f max(x0 - 2 * x1, -1)
for e 0
for g 1
for h x1 + 3"""


class Formulas(Case):
    def setUp(self):
        self.book = Book(read(BEND))

    def test_ordinary(self):
        self.same(form_bounds(self.book, ("lot",), DOWN, (None,), ((1, 4),)), (-4, -1))
        self.same(formula_bounds(self.book, ("lot",), ("max", (UP, DOWN)), (None,), ((-1, 1),)), (-1, 1))
        self.same(formula_bounds(self.book, ("lot",), ("min", (UP, DOWN)), (None,), ((-1, 1),)), (-1, 1))
        self.same(formula_bounds(self.book, ("lot",), ("one", (DOWN,)), (None,), ((1, 4),)), (-4, -1))

    def test_forms(self):
        kinds, dress = ("lot", ("sign",), "lot", ("run",)), (None, ("a",), None, ("bab",))
        form = ((3, ("part", 2)), (5, ("one",)), (-2, ("part", 0)), (2, ("num", "two", ((1, 0),))), (-1, ("len", (3, 0))))
        pairs = ((-1, 10), (100, 200))
        self.same(form_bounds(self.book, kinds, form, dress, pairs),
                  (5 + 4 - 3 - 20 + 300, 5 + 4 - 3 + 2 + 600))
        # lo may be above hi; a slope of 0 looks at neither.
        self.same(form_bounds(self.book, kinds, form, dress, ((7, 1), (4, 2))), (6 - 2 + 12, 6 - 14 + 6))
        self.same(form_bounds(self.book, ("lot",), ((4, ("part", 0)), (-4, ("part", 0))), (None,), ((-9, 9),)), (0, 0))
        self.same(form_bounds(self.book, (("none",),), ((7, ("one",)),), (("",),), ()), (7, 7))

    def test_formulas(self):
        other = ((1, ("part", 0)), (3, ("one",)))
        pairs = ((-5, 2),)
        bounds = [form_bounds(self.book, ("lot",), form, (None,), pairs) for form in (UP, DOWN, other)]
        self.same(bounds, [(-5, 2), (-2, 5), (-2, 5)])
        self.same(formula_bounds(self.book, ("lot",), ("max", (UP, DOWN, other)), (None,), pairs), (-2, 5))
        self.same(formula_bounds(self.book, ("lot",), ("min", (UP, DOWN, other)), (None,), pairs), (-5, 2))
        self.same(formula_bounds(self.book, ("lot",), ("min", (((9, ("one",)),), UP)), (None,), pairs), (-5, 2))
        self.same(formula_bounds(self.book, ("lot",), ("max", (((9, ("one",)),), UP)), (None,), pairs), (9, 9))

    def test_drawn_formulas(self):
        for seed in range(150):
            draw, chance = BookDraw(seed), random.Random(seed)
            book = Book(draw.program())
            for maker in book.makers():
                kinds, parts = book.kinds(maker), book.parts(maker)
                dress = tuple(None if kind == "lot" else tuple(chance.choice(book.signs) if word == "sign" else ""
                                                               for word in kind) for kind in kinds)
                pairs = tuple(tuple(sorted((chance.randint(-5, 5), chance.randint(-5, 5)))) for _ in parts)
                for judge in ("j", "k"):
                    formula = book.formula(judge, maker)
                    lower, upper = formula_bounds(book, kinds, formula, dress, pairs)
                    for _ in range(5):
                        given = tuple(chance.randint(*pair) for pair in pairs)
                        told = number_value(book, kinds, formula, dress, given)
                        self.assertLessEqual(lower, told)
                        self.assertLessEqual(told, upper)


def bounds_by_rules(book, judge, rows):
    """Bounds of all spots by [93]."""
    known = {}
    for spot in spots_of(Shape(book), tuple(len(row) for row in rows)):
        told = []
        for number, cut, parts in looks(book.program, rows, *spot):
            if all(known.get(part) is not None for part in parts):
                way = book.ways(spot[0])[number]
                told.append(formula_bounds(book, book.kinds(way[0]), book.formula(judge, way[0]),
                                           dress_at(rows, way, spot[1], cut), tuple(known[part] for part in parts)))
        known[spot] = (min(lo for lo, _ in told), max(hi for _, hi in told)) if told else None
    return tuple(known.items())


class Bounds(Case):
    def test_ordinary(self):
        bounds = bounds_of(shape_of(FOLD), "worth", ("ab",))
        self.same(bounds[4:], ((("fold", ((1, 2),)), (0, 0)), (("fold", ((0, 2),)), (0, 1))))
        self.same(bounds_of(shape_of(UNMADE + "\njudge j number\nfor f x1\nfor e 0"), "j", ("aa",)), ())

    def test_spots_without_candidates(self):
        shape = shape_of(SLOPES)
        bounds = dict(bounds_of(shape, "j", ("ab",)))
        self.same(bounds[("t", ((1, 2),))], None)
        self.same(bounds[("t", ((0, 1),))], (1, 1))
        self.same(bounds[("s", ((0, 1),))], (-1, -1))
        self.same(bounds[("s", ((0, 2),))], None)
        self.same(dict(bounds_of(shape, "j", ("aa",)))[("t", ((0, 2),))], (4, 4))

    def test_drawn_programs(self):
        exact = 0
        for draw, book in ringless(range(150)):
            shape, rows = Shape(book), draw.drawn_rows()
            for judge in ("j", "k"):
                bounds = bounds_of(shape, judge, rows)
                self.same(bounds, bounds_by_rules(book, judge, rows))
                self.assertIs(bounds_fit(shape, judge, rows, bounds), None)
                known = used_border(shape, ("ends", 1, judge)) is None
                for (lot, stretch), bound in bounds:
                    bag = bag_of(shape, ("spread", judge), rows, lot, stretch)
                    self.assertEqual(bound is None, bag == ())
                    if bag:
                        self.assertTrue(bound[0] <= min(bag) and max(bag) <= bound[1])
                        exact += known
                        if known:
                            self.same(bound, (min(bag), max(bag)))
        self.assertGreater(exact, 100)

    def test_rows(self):
        for function, told in ((bounds_of, ()), (bounds_fit, ((),))):
            self.raises(BadRows(0), function, shape_of(FOLD), "worth", ("c",), *told)
            self.raises(BadRows(-1), function, shape_of(FOLD), "worth", "a", *told)
            self.raises(BadRows(1), function, shape_of(TWIN), "worth", ("", "c"), *told)


class Fits(Case):
    def setUp(self):
        self.fold = shape_of(FOLD)
        self.bounds = bounds_of(self.fold, "worth", ("ab",))

    def fits(self, bounds, wanted, rows=("ab",)):
        self.same(bounds_fit(self.fold, "worth", rows, bounds), wanted)

    def test_ordinary(self):
        whole = self.bounds[5][0]
        self.fits(self.bounds, None)
        self.fits(self.bounds[::-1], None)
        self.fits(self.bounds[:5] + ((whole, (-3, 0)),), (5, "high"))
        self.fits(self.bounds[5:], (0, "unknown"))
        self.fits(self.bounds[:5] + ((whole, (1, 1)),), (5, "low"))
        self.fits(self.bounds[:5] + ((whole, None),), (5, "none"))
        self.fits(self.bounds[:5] + ((whole, (-7, 9)),), None)
        # Spots may be left out that none has as part.
        self.fits(self.bounds[:5], None)
        self.fits((), None)
        self.fits(self.bounds[:1], None)
        self.fits(self.bounds[1:], None)
        self.fits(self.bounds[:2] + self.bounds[3:], (3, "unknown"))

    def test_spots(self):
        beyond, lost = (("fold", ((0, 3),)), (0, 0)), (("lost", ((0, 0),)), None)
        self.fits(self.bounds + (beyond,), (6, "spot"))
        self.fits((lost,) + self.bounds, (0, "spot"))
        self.fits(self.bounds + self.bounds[2:3], (6, "twice"))
        self.fits((beyond, beyond), (0, "spot"))
        self.fits(self.bounds[5:] + self.bounds[5:] + (beyond,), (1, "twice"))
        self.fits(((("fold", ((-1, 0),)), (0, 0)),), (0, "spot"))
        # The first pass looks at all pairs ahead of what holds for the first one.
        self.fits(self.bounds[5:] + (beyond,), (1, "spot"))

    def test_the_first_that_holds(self):
        whole = self.bounds[5][0]
        # A look with an unknown part ahead of the bound None of the spot itself.
        self.fits(((whole, None),), (0, "unknown"))
        # The first look, by free, is too low as well as too high.
        self.fits(self.bounds[:5] + ((whole, (1, -1)),), (5, "low"))
        self.fits(self.bounds[:5] + ((whole, (0, -1)),), (5, "high"))
        # The look by free is let, that by bond is not.
        self.fits(self.bounds[:5] + ((whole, (0, 0)),), (5, "high"))
        # By two pairs: the first one in the sequence of the paper.
        torn = ((whole, (5, 5)),) + self.bounds[1:5] + ((self.bounds[0][0], None),)
        self.fits(torn, (0, "low"))
        self.fits(torn[::-1], (0, "none"))

    def test_looks_with_a_part_without_bound(self):
        shape = shape_of(SLOPES)
        bounds = bounds_of(shape, "j", ("ab",))
        self.assertIs(bounds_fit(shape, "j", ("ab",), bounds), None)
        # All looks at s over all have a part of t with None, but for that by a t without bound.
        left = tuple(pair for pair in bounds if pair[0] not in (("t", ((1, 2),)), ("t", ((0, 2),))))
        number = [spot for spot, _ in left].index(("s", ((0, 2),)))
        self.same(bounds_fit(shape, "j", ("ab",), left), (number, "unknown"))
        # An unknown part beside one without bound says nothing.
        some = ((("s", ((0, 2),)), None), (("t", ((1, 2),)), None), (("t", ((0, 2),)), None))
        self.assertIs(bounds_fit(shape, "j", ("ab",), some), None)
        # A spot without candidates may have any bound, also one with lo above hi.
        wide = tuple((spot, (9, -9)) if spot == ("s", ((0, 2),)) else (spot, bound) for spot, bound in bounds)
        self.assertIs(bounds_fit(shape, "j", ("ab",), wide), None)

    def test_a_start_that_is_not_made(self):
        unmade = shape_of(UNMADE + "\njudge j number\nfor f x1\nfor e 0")
        self.assertIs(bounds_fit(unmade, "j", ("aa",), ()), None)
        self.same(bounds_fit(unmade, "j", ("aa",), ((("s", ((0, 2),)), None),)), (0, "spot"))

    def test_slopes_of_both_signs(self):
        shape = shape_of(FALLS)
        for judge in ("j", "k", "d"):
            bounds = bounds_of(shape, judge, ("ab",))
            self.assertIs(bounds_fit(shape, judge, ("ab",), bounds), None)
            at = len(bounds) - 1
            lo, hi = bounds[at][1]
            self.same(bounds_fit(shape, judge, ("ab",), bounds[:at] + ((bounds[at][0], (lo + 1, hi)),)), (at, "low"))
            self.same(bounds_fit(shape, judge, ("ab",), bounds[:at] + ((bounds[at][0], (lo, hi - 1)),)), (at, "high"))

    def test_drawn_bounds(self):
        """What fits holds the values; a bound that is drawn in by one does not fit."""
        for seed, (draw, book) in enumerate(ringless(range(100))):
            chance = random.Random(seed)
            shape, rows = Shape(book), draw.drawn_rows()
            bounds = bounds_of(shape, "j", rows)
            if bounds:
                at = chance.randrange(len(bounds))
                spot, bound = bounds[at]
                if bound is not None:
                    for torn, why in (((bound[0] + 1, bound[1]), "low"), ((bound[0], bound[1] - 1), "high"),
                                      (None, "none")):
                        told = bounds[:at] + ((spot, torn),) + bounds[at + 1:]
                        self.same(bounds_fit(shape, "j", rows, told), (at, why))
                        turned = bounds_fit(shape, "j", rows, told[::-1])
                        self.assertIsNotNone(turned)
                wide = tuple((one, None if pair is None else (pair[0] - 10 ** 9, pair[1] + 10 ** 9))
                             for one, pair in bounds[-1:])
                self.assertIs(bounds_fit(shape, "j", rows, bounds[:-1] + wide), None)
