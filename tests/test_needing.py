"""[77], [78]: the needs of spots, orders and waves."""

import random
from unittest import mock

from chooseonce.errors import BadPlan
from chooseonce.needing import needs_of, order_fits, waves_of
from chooseonce.planning import price_of
from chooseonce.shapes import Shape
from chooseonce.spots import spots_of
from tests.helping import EDGE, FOLD, TWIN, Case
from tests.runreckoning import Reckoned, small_lengths
from tests.shapedrawing import ringless
from tests.test_prices import DOUBLE, THREE, shape_of
from tests.test_spots import UNMADE

# Its price over a row of 54 signs is 400000, though it has but one spot, without needs.
RUNS = """signs ab
rows 1
start s
lot s
way run5(run 0 any, run 0 any, run 0 27, run 0 any, run 0 any)
way run4(run 0 any, run 0 any, run 0 1, run 0 any)
way run3(run 0 any, run 0 any, run 0 1)
way run2(run 0 any, run 0 0)"""

# There are very many ways to ask for the spots of u from that of the whole row, if s is not kept.
HALVES = """signs a
rows 1
start s
lot s
way one(u)
way two(s, s)
lot u
way sole(sign)"""


def listing_no_cuts():
    """Lets no cuts of spots be listed."""
    return mock.patch("chooseonce.looks.cuts_of", side_effect=AssertionError)


class Needs(Case):
    def test_ordinary(self):
        fold = shape_of(FOLD)
        self.same(needs_of(fold, (2,), ("fold",), ("fold", ((0, 2),))),
                  (("fold", ((1, 1),)), ("fold", ((2, 2),)), ("fold", ((1, 2),))))
        self.same(needs_of(fold, (2,), (), ("fold", ((0, 2),))), ())
        self.same(needs_of(fold, (2,), ("fold",), ("fold", ((1, 1),))), ())

    def test_by_way_of_spots_that_are_not_kept(self):
        double = shape_of(DOUBLE)
        whole = ("s", ((0, 2),))
        self.same(needs_of(double, (2,), ("u",), whole),
                  (("u", ((0, 0),)), ("u", ((1, 1),)), ("u", ((0, 1),))))
        self.same(needs_of(double, (2,), ("s", "u"), whole),
                  (("u", ((0, 0),)), ("u", ((1, 1),)), ("u", ((0, 1),))))
        self.same(needs_of(double, (2,), ("t",), whole), (
            ("t", ((0, 0),)), ("t", ((2, 2),)), ("t", ((0, 1),)), ("t", ((1, 2),)), ("t", ((0, 2),))))
        # t may have no width beside t over all; of its own lot no spot is asked for.
        self.same(needs_of(double, (2,), ("s",), whole), ())

    def test_waves(self):
        fold = shape_of(FOLD)
        self.same(waves_of(fold, (1,)),
                  ((("fold", ((0, 0),)), ("fold", ((1, 1),))), (("fold", ((0, 1),)),)))
        self.same(waves_of(shape_of(UNMADE), (3,)), ())
        # Widths added, then rank: lots of one rank stand in one wave.
        self.same(waves_of(shape_of(TWIN), (0, 1)), (
            (("rest", ((0, 0), (1, 1))),), (("all", ((0, 0), (1, 1))),),
            (("pair", ((0, 0), (0, 1))), ("tail", ((0, 0), (0, 1)))),
            (("rest", ((0, 0), (0, 1))),), (("all", ((0, 0), (0, 1))),),
        ))

    def test_drawn_programs(self):
        for _, book in ringless(range(80)):
            shape = Shape(book)
            for lengths in small_lengths(book.rows):
                reckoned = Reckoned(book.program, lengths)
                spots = reckoned.spots()
                keys = sorted({reckoned.wave(spot) for spot in spots})
                self.same(waves_of(shape, lengths), tuple(
                    tuple(spot for spot in spots if reckoned.wave(spot) == key) for key in keys))
                for plan in reckoned.plans():
                    for spot in spots[-7:]:
                        wanted = sorted(reckoned.needs(plan, spot), key=reckoned.order)
                        self.same(needs_of(shape, lengths, plan, spot), tuple(wanted))

    def test_parts_that_are_not_empty(self):
        for text in (TWIN, THREE):
            shape = shape_of(text)
            for lengths in ((0, 2), (1, 1), (2, 2)):
                reckoned = Reckoned(shape.book.program, lengths)
                for plan in reckoned.plans():
                    for spot in reckoned.spots()[-9:]:
                        wanted = sorted(reckoned.needs(plan, spot), key=reckoned.order)
                        self.same(needs_of(shape, lengths, plan, spot), tuple(wanted))

    def test_long_rows(self):
        fold = shape_of(FOLD)
        spots = spots_of(fold, (80,))
        with listing_no_cuts():
            # All that begin behind its first sign, and those behind a bond of this one.
            self.same(needs_of(fold, (80,), ("fold",), spots[-1]),
                      tuple(spot for spot in spots if spot[1][0][0] == 1 or spot[1][0] == (80, 80)
                            or (spot[1][0][1] == 80 and spot[1][0][0] > 1)))
            self.same(needs_of(shape_of(RUNS), (54,), ("s",), ("s", ((0, 54),))), ())
            self.same(needs_of(shape_of(HALVES), (60,), ("u",), ("s", ((0, 60),))),
                      tuple(("u", ((start, start + 1),)) for start in range(60)))

    def test_plans(self):
        edge = shape_of(EDGE)
        for plan, lot in ((("edge", "lost"), "lost"), (("edge", "edge"), "edge"), (("core", "whole"), "whole")):
            self.raises(BadPlan(lot), needs_of, edge, (1,), plan, ("core", ((0, 1),)))
            self.raises(BadPlan(lot), order_fits, edge, (1,), plan, ())


class Orders(Case):
    def test_ordinary(self):
        fold = shape_of(FOLD)
        zero, one, both = ("fold", ((0, 0),)), ("fold", ((1, 1),)), ("fold", ((0, 1),))
        plan = ("fold",)
        self.same(order_fits(fold, (1,), plan, (one, both)), (2, "left"))
        self.same(order_fits(fold, (1,), plan, (zero, both)), (1, "early"))
        self.assertIs(order_fits(fold, (1,), plan, (zero, one, both)), None)
        self.assertIs(order_fits(fold, (1,), plan, (one, both, zero)), None)
        self.same(order_fits(fold, (1,), plan, (one, one, both)), (1, "twice"))
        self.same(order_fits(fold, (1,), plan, (both, one, zero)), (0, "early"))
        self.same(order_fits(fold, (1,), plan, (one, ("fold", ((1, 2),)))), (1, "spot"))
        self.same(order_fits(fold, (1,), plan, (one, ("fool", ((1, 1),)), both)), (1, "spot"))
        self.same(order_fits(fold, (1,), plan, ()), (0, "left"))
        # Nothing is kept: each spot is one too many.
        self.assertIs(order_fits(fold, (1,), (), ()), None)
        self.same(order_fits(fold, (1,), (), (zero,)), (0, "spot"))

    def test_the_first_that_holds(self):
        fold = shape_of(FOLD)
        zero, one, both = ("fold", ((0, 0),)), ("fold", ((1, 1),)), ("fold", ((0, 1),))
        beyond = ("fold", ((0, 2),))
        plan = ("fold",)
        # A spot beyond the lengths twice; one that stands twice, too early both times.
        self.same(order_fits(fold, (1,), plan, (beyond, beyond)), (0, "spot"))
        self.same(order_fits(fold, (1,), plan, (both, both)), (0, "early"))
        self.same(order_fits(fold, (1,), plan, (one, both, both, beyond)), (2, "twice"))
        self.same(order_fits(fold, (1,), plan, (zero, zero, both)), (1, "twice"))

    def test_by_way_of_spots_that_are_not_kept(self):
        double = shape_of(DOUBLE)
        u0, u1 = ("u", ((0, 0),)), ("u", ((1, 1),))
        whole, none = ("s", ((0, 1),)), ("s", ((0, 0),))
        kept = [spot for spot in spots_of(double, (1,)) if spot[0] in ("s", "u")]
        self.assertIs(order_fits(double, (1,), ("s", "u"), tuple(kept)), None)
        self.assertIn(u0, kept)
        place = kept.index(whole)
        moved = [whole] + [spot for spot in kept if spot != whole]
        self.same(order_fits(double, (1,), ("s", "u"), tuple(moved)), (0, "early"))
        self.same(order_fits(double, (1,), ("s", "u"), tuple(kept[:place])), (place, "left"))

    def test_many_cuts(self):
        runs = shape_of(RUNS)
        self.same(price_of(runs, (54,), ("s",)), 400000)
        whole = ("s", ((0, 54),))
        with listing_no_cuts():
            self.same(order_fits(runs, (54,), ("s",), ()), (0, "left"))
            self.same(order_fits(runs, (54,), ("s",), (("s", ((0, 1),)),)), (0, "spot"))
            self.assertIs(order_fits(runs, (54,), ("s",), (whole,)), None)
            self.same(order_fits(runs, (54,), ("s",), (whole, whole)), (1, "twice"))
            self.assertIs(order_fits(runs, (54,), (), ()), None)
            self.same(order_fits(runs, (54,), (), (whole,)), (0, "spot"))

    def test_long_orders(self):
        fold = shape_of(FOLD)
        spots = spots_of(fold, (80,))
        halves = shape_of(HALVES)
        units = tuple(("u", ((start, start + 1),)) for start in range(60))
        long = tuple(spot for spot in spots_of(halves, (60,)) if spot[0] == "s")
        with listing_no_cuts():
            self.assertIs(order_fits(fold, (80,), ("fold",), spots), None)
            self.same(order_fits(fold, (80,), ("fold",), spots[:-1]), (len(spots) - 1, "left"))
            # Nothing asks for the stretch ahead of the first sign, but much for that behind it.
            self.same(order_fits(fold, (80,), ("fold",), spots[1:]), (3320, "left"))
            self.same(order_fits(fold, (80,), ("fold",), spots[:1] + spots[2:]), (80, "early"))
            self.same(order_fits(fold, (80,), ("fold",), spots[:-2] + spots[-1:]), (len(spots) - 2, "early"))
            self.same(order_fits(fold, (80,), ("fold",), spots[::-1]), (0, "early"))
            self.assertIs(order_fits(halves, (60,), ("u",), units[::-1]), None)
            self.same(order_fits(halves, (60,), ("u",), units[:-1]), (59, "left"))
            self.assertIs(order_fits(halves, (60,), ("s",), long), None)
            self.same(order_fits(halves, (60,), ("s",), long[1:]), (59, "early"))
            self.assertIs(order_fits(halves, (60,), ("s", "u"), units + long), None)

    def test_a_need_by_way_of_spots_that_are_not_kept(self):
        # Each t asks for a w and, by way of v, for a u.
        text = """signs a
rows 1
start s
lot s
way f(t, sign)
way g(sign, t)
lot t
way h(w, v)
lot v
way i(u, sign)
lot u
way j(sign)
lot w
way k(sign)"""
        shape = shape_of(text)
        t0, t1 = ("t", ((0, 3),)), ("t", ((1, 4),))
        u0, u1, w0, w1 = ("u", ((1, 2),)), ("u", ((2, 3),)), ("w", ((0, 1),)), ("w", ((1, 2),))
        plan = ("t", "u", "w")
        self.same(needs_of(shape, (4,), plan, t0), (u0, w0))
        self.same(needs_of(shape, (4,), plan, ("s", ((0, 4),))), (t0, t1))
        self.same(needs_of(shape, (4,), ("u", "w"), ("s", ((0, 4),))), (u0, u1, w0, w1))
        self.assertIs(order_fits(shape, (4,), plan, (u0, w0, t0, w1, u1, t1)), None)
        self.same(order_fits(shape, (4,), plan, (w0, t0, u0, w1, u1, t1)), (1, "early"))
        self.same(order_fits(shape, (4,), plan, (u1, w0, t0, w1, u0, t1)), (2, "early"))
        self.same(order_fits(shape, (4,), plan, (u0, w0, t0, w1, t1, u1)), (4, "early"))
        self.same(order_fits(shape, (4,), plan, (u0, w0, t0, u1, t1, w1)), (4, "early"))

    def test_drawn_orders(self):
        for seed, (draw, book) in enumerate(ringless(range(60))):
            chance = random.Random(seed)
            shape = Shape(book)
            for lengths in small_lengths(book.rows):
                reckoned = Reckoned(book.program, lengths)
                for plan in reckoned.plans():
                    kept = reckoned.kept(plan)
                    self.assertIs(order_fits(shape, lengths, plan, tuple(kept)), None)
                    for _ in range(3):
                        beyond = (book.start, ((0, 9),) * book.rows)
                        order = self.torn(chance, kept, [beyond, *reckoned.spots()])
                        self.same(order_fits(shape, lengths, plan, tuple(order)),
                                  self.wanted(reckoned, plan, order))

    def torn(self, chance, kept, spots):
        """The kept spots in another sequence, some left out, some twice, some that are not kept."""
        order = list(kept)
        for _ in range(chance.randint(0, 3)):
            at = chance.randrange(len(order) + 1)
            one = chance.choice(spots)
            order = order[:at] + chance.choice(([], [one])) + order[at + 1:] + chance.choice(([], order[at:at + 1]))
        return order

    def wanted(self, reckoned, plan, order):
        kept = reckoned.kept(plan)
        for number, spot in enumerate(order):
            if spot not in kept:
                return (number, "spot")
            if spot in order[:number]:
                return (number, "twice")
            if not reckoned.needs(plan, spot) <= set(order[:number]):
                return (number, "early")
        return (len(order), "left") if set(kept) - set(order) else None
