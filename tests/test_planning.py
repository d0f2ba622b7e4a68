"""[75], [76]: prices and rooms of runs, and the plan that takes least."""

from chooseonce.books import Book
from chooseonce.errors import BadPlan, TooLong
from chooseonce.planning import all_kept, check_price, plan_for, price_of, room_of
from chooseonce.prices import many_spots, work_of
from chooseonce.programs import read
from chooseonce.shapes import Shape
from tests.helping import EDGE, FOLD, Case
from tests.runreckoning import Reckoned, small_lengths
from tests.shapedrawing import ringless
from tests.test_prices import DOUBLE, shape_of
from tests.test_spots import UNMADE

# Both t and u may be kept for the same price and room; v comes ahead of all in price.
ALIKE = """signs a
rows 1
start s
lot s
way f(v)
lot v
way g(t, u)
lot u
way h(sign)
way i(sign(a))
lot t
way h(sign)
way i(sign(a))"""


class Plans(Case):
    def test_ordinary(self):
        fold = shape_of(FOLD)
        self.same(all_kept(fold), ("fold",))
        self.same((price_of(fold, (3,), ("fold",)), price_of(fold, (3,), ())), (14, 15))
        self.same((room_of(fold, (3,), ("fold",)), room_of(fold, (3,), ())), (10, 0))
        self.same((plan_for(fold, (3,), 10), plan_for(fold, (3,), 9)), (("fold",), ()))
        self.same(all_kept(shape_of(EDGE)), ("whole", "edge", "core"))
        # Two cuts of whole; two spots of core and five of edge, each with one look.
        self.same(price_of(shape_of(EDGE), (3,), ("whole", "edge", "core")), 2 + 2 + 5)

    def test_plans(self):
        edge = shape_of(EDGE)
        for plan, lot in ((("edge", "lost"), "lost"), (("edge", "edge"), "edge"), (("core", "whole"), "whole")):
            self.raises(BadPlan(lot), price_of, edge, (2,), plan)
            self.raises(BadPlan(lot), room_of, edge, (2,), plan)
        self.raises(BadPlan("fold"), price_of, shape_of(FOLD), (3,), ("fold", "fold"))

    def test_no_useful_lot(self):
        unmade = shape_of(UNMADE)
        self.same(all_kept(unmade), ())
        self.same((price_of(unmade, (5,), ()), room_of(unmade, (5,), ())), (0, 0))
        self.same((plan_for(unmade, (5,), 0), plan_for(unmade, (5,), 9)), ((), ()))
        self.raises(BadPlan("s"), price_of, unmade, (5,), ("s",))

    def test_no_whole_spot(self):
        # Rows are too short for the start lot, kept or not.
        double = shape_of(DOUBLE.replace("two(t, t)", "two(t, t, sign)"))
        self.same((price_of(double, (0,), ()), price_of(double, (0,), ("s", "t", "u"))), (0, 0))
        self.same((room_of(double, (0,), ("s", "t", "u")), plan_for(double, (0,), 0)), (0, ()))

    def test_large(self):
        fold = shape_of(FOLD)
        # Spots of width w: 81 - w of them, w looks each from width 2 on.
        looks = sum((81 - width) * max(width, 1) for width in range(81))
        self.same((price_of(fold, (80,), ("fold",)), room_of(fold, (80,), ("fold",))), (looks, 81 * 82 // 2))
        self.same(price_of(fold, (80,), ()), work_of(fold, (), "fold", (80,)))

    def test_too_long(self):
        fold = shape_of(FOLD)
        self.assertIs(check_price(fold, (80,), ("fold",)), None)
        self.raises(TooLong(price_of(fold, (16,), ())), check_price, fold, (16,), ())

    def test_plan_for_alike_ones(self):
        alike = shape_of(ALIKE)
        prices = {plan: (price_of(alike, (2,), plan), room_of(alike, (2,), plan), plan)
                  for plan in Reckoned(read(ALIKE), (2,)).plans()}
        for most in range(6):
            fitting = [told for told in prices.values() if told[1] <= most]
            self.same(plan_for(alike, (2,), most), min(fitting)[2])
        # All plans have one price, so nothing is kept.
        self.same(set(told[0] for told in prices.values()), {6})
        self.same(plan_for(alike, (2,), 5), ())

    def test_plan_for_alike_in_price_and_room(self):
        # Each of u and t is asked for by two ways; there is room for one of them.
        text = ALIKE.replace("way f(v)", "way f(v)\nway k(v)").replace("lot u", "way l(t, u)\nlot u")
        alike = shape_of(text)
        one, other = price_of(alike, (2,), ("v", "u")), price_of(alike, (2,), ("v", "t"))
        self.same((one, room_of(alike, (2,), ("v", "u"))), (other, room_of(alike, (2,), ("v", "t"))))
        for most in range(8):
            plans = [plan for plan in Reckoned(read(text), (2,)).plans() if room_of(alike, (2,), plan) <= most]
            wanted = min((price_of(alike, (2,), plan), room_of(alike, (2,), plan), plan) for plan in plans)
            self.same(plan_for(alike, (2,), most), wanted[2])

    def test_drawn_programs(self):
        for _, book in ringless(range(60)):
            shape = Shape(book)
            for lengths in small_lengths(book.rows):
                reckoned = Reckoned(book.program, lengths)
                told = {}
                for plan in reckoned.plans():
                    told[plan] = (reckoned.price(plan), len(reckoned.kept(plan)), plan)
                    self.same((price_of(shape, lengths, plan), room_of(shape, lengths, plan)), told[plan][:2])
                    self.added_up(shape, lengths, plan, reckoned)
                rooms = {room for _, room, _ in told.values()}
                for most in rooms | {room - 1 for room in rooms if room} | {0, 99999}:
                    least = min(one for one in told.values() if one[1] <= most)
                    self.same(plan_for(shape, lengths, most), least[2])

    def added_up(self, shape, lengths, plan, reckoned):
        """The room and the price are the sums that [81] tells."""
        every = [(lot, widths, many_spots(shape, lengths, lot, widths))
                 for lot, widths in reckoned.lots_and_widths() if lot in plan]
        self.same(room_of(shape, lengths, plan), sum(many for _, _, many in every))
        price = sum(many * work_of(shape, plan, lot, widths) for lot, widths, many in every if many)
        whole = reckoned.whole()
        if whole is not None and whole[0] not in plan:
            price += work_of(shape, plan, whole[0], lengths)
        self.same(price_of(shape, lengths, plan), price)
        if plan == all_kept(shape):
            self.same(price, sum(len(reckoned.looks(spot)) for spot in reckoned.spots()))
