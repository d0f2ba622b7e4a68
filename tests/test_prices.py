"""[74]: how many spots there are, and the work of one."""

from chooseonce.books import Book
from chooseonce.errors import BadPlan
from chooseonce.prices import many_spots, work_of
from chooseonce.programs import read
from chooseonce.shapes import Shape
from tests.helping import EDGE, FOLD, TWIN, Case
from tests.runreckoning import Reckoned, small_lengths
from tests.shapedrawing import ringless

# Three parts that are not empty, of which each may have no width on one row, beside marks.
THREE = """signs ab
rows 2
start s
lot s
way f(t, run 0 any / run 1 2, t, u, t)
way g(t, t, v)
way h(run 0 1 / none, t, t, sign / none)
lot t
way up(sign / none)
way down(none / run 1 any)
lot u
way e(none / none)
way d(none / sign)
lot v
way p(none / sign)
way q(sign / sign)"""

# Both parts of two may have the same spot, without width.
DOUBLE = """signs a
rows 1
start s
lot s
way two(t, t)
lot t
way one(u, sign)
way nil(none)
lot u
way f(sign, u)
way e(none)"""


def shape_of(text):
    return Shape(Book(read(text)))


class Prices(Case):
    def test_ordinary(self):
        fold = shape_of(FOLD)
        self.same((work_of(fold, ("fold",), "fold", (2,)), work_of(fold, (), "fold", (2,))), (2, 6))
        self.same((work_of(fold, (), "fold", (0,)), work_of(fold, ("fold",), "fold", (0,))), (1, 1))
        self.same([many_spots(fold, (4,), "fold", (width,)) for width in range(6)], [5, 4, 3, 2, 1, 0])
        edge = shape_of(EDGE)
        self.same([many_spots(edge, (3,), "core", (width,)) for width in range(4)], [0, 1, 1, 0])
        self.same([many_spots(edge, (0,), "edge", (width,)) for width in range(2)], [0, 0])
        twin = shape_of(TWIN)
        self.same((many_spots(twin, (2, 2), "pair", (0, 0)), many_spots(twin, (2, 2), "all", (0, 0))), (0, 1))
        self.same(many_spots(twin, (2, 3), "pair", (1, 1)), 6)

    def test_two_parts_with_one_spot(self):
        double = shape_of(DOUBLE)
        # One look, and each part is worked out for itself: 1 + 2 * 1.
        self.same(work_of(double, (), "s", (0,)), 3)
        # Two looks at s; of t over a one: 1 look and that at u; over nothing 1.
        self.same(work_of(double, (), "s", (1,)), 2 + 2 * (2 + 1))
        self.same(work_of(double, ("u",), "s", (1,)), 2 + 2 * (1 + 1))
        self.same(work_of(double, ("t",), "s", (1,)), 2)
        self.same(work_of(double, ("s",), "s", (1,)), 8)

    def test_plans(self):
        edge = shape_of(EDGE)
        for plan, lot in ((("edge", "lost"), "lost"), (("spare",), "spare"), (("nowhere", "edge"), "nowhere"),
                          (("edge", "edge"), "edge"), (("core", "edge"), "edge"),
                          (("core", "whole", "lost"), "whole"), (("",), "")):
            self.raises(BadPlan(lot), work_of, edge, plan, "edge", (1,))
        self.same(work_of(edge, ("whole", "core"), "edge", (2,)), 1 + 1 + 1)

    def test_large(self):
        fold = shape_of(FOLD)
        # A way bond with two parts: 79 cuts, and one by free.
        self.same(work_of(fold, ("fold",), "fold", (80,)), 80)
        self.same(many_spots(fold, (80,), "fold", (30,)), 51)
        works = [1, 2]
        for width in range(2, 81):
            pairs = [works[left] + works[width - 2 - left] + 1 for left in range(width - 1)]
            works.append(1 + works[width - 1] + sum(pairs))
        self.same(work_of(fold, (), "fold", (80,)), works[80])

    def test_drawn_programs(self):
        for _, book in ringless(range(70)):
            shape = Shape(book)
            for lengths in small_lengths(book.rows):
                reckoned = Reckoned(book.program, lengths)
                self.spots_counted(shape, lengths, reckoned)
                for plan in reckoned.plans():
                    for spot in reckoned.spots()[-9:]:
                        widths = tuple(end - start for start, end in spot[1])
                        self.same(work_of(shape, plan, spot[0], widths), reckoned.work(plan, spot))

    def test_parts_that_are_not_empty(self):
        # Some lots have least width 0 on each row, or on one alone, and are not empty.
        for text in (TWIN, THREE):
            book = Book(read(text))
            for lengths in ((0, 2), (2, 0), (1, 1), (2, 2)):
                reckoned = Reckoned(book.program, lengths)
                self.spots_counted(Shape(book), lengths, reckoned)
                for plan in reckoned.plans():
                    for spot in reckoned.spots():
                        widths = tuple(end - start for start, end in spot[1])
                        self.same(work_of(Shape(book), plan, spot[0], widths), reckoned.work(plan, spot))

    def spots_counted(self, shape, lengths, reckoned):
        spots = [(lot, tuple(end - start for start, end in stretch)) for lot, stretch in reckoned.spots()]
        for lot, widths in reckoned.lots_and_widths():
            self.same(many_spots(shape, lengths, lot, widths), spots.count((lot, widths)))
