"""[91], [96]: tables as papers; (G10)."""

import random

from chooseonce.askparts import asks_in
from chooseonce.errors import BadRows
from chooseonce.shapes import Shape
from chooseonce.tablechecks import table_fits
from chooseonce.tables import early_table
from tests.askdrawing import AskDraw
from tests.helping import EDGE, FOLD, TWIN, Case
from tests.shapedrawing import ringless
from tests.test_choosing import ASKS, MORE
from tests.test_mending import DRAWN
from tests.test_prices import shape_of
from tests.test_spots import UNMADE

WAYS = ("total", "ways")


class Tables(Case):
    def test_ordinary(self):
        fold = shape_of(FOLD)
        table = early_table(fold, WAYS, ("a",))
        self.assertIs(table_fits(fold, WAYS, ("a",), table), None)
        self.same(table_fits(fold, WAYS, ("a",), table[:2] + ((("fold", ((0, 1),)), 2),)), (2, "answer"))
        self.same(table_fits(fold, WAYS, ("a",), table + table), (3, "spot"))
        shape = shape_of(MORE)
        for ask in ASKS:
            self.assertIs(table_fits(shape, ask, ("abba",), early_table(shape, ask, ("abba",))), None)

    def test_spots(self):
        fold = shape_of(FOLD)
        table = early_table(fold, WAYS, ("ab",))
        beyond = (("fold", ((0, 3),)), 1)
        for wrong, number in ((table[:5], 5), ((), 0), (table[1:], 0), (table[:2] + table[3:], 2), (table + (beyond,), 6),
                              (table[:3] + (table[4], table[3]) + table[5:], 3), (table[:4] + table[3:], 4),
                              (table[:5] + (beyond,), 5), (((("fool", ((0, 0),)), 1),) + table[1:], 0)):
            self.same(table_fits(fold, WAYS, ("ab",), wrong), (number, "spot"))
        # A wrong spot is told ahead of wrong answers in front of it.
        torn = ((table[0][0], 7),) + table[1:5]
        self.same(table_fits(fold, WAYS, ("ab",), torn), (5, "spot"))

    def test_answers(self):
        fold = shape_of(FOLD)
        table = early_table(fold, WAYS, ("ab",))
        # What stands behind is right by the table's own answers.
        self.same(table_fits(fold, WAYS, ("ab",), ((table[0][0], 5),) + table[1:3] + ((table[3][0], 5),)
                             + table[4:]), (0, "answer"))
        grown = table[:2] + ((table[2][0], 3), (table[3][0], 1), (table[4][0], 3), (table[5][0], 6))
        self.same(table_fits(fold, WAYS, ("ab",), grown), (2, "answer"))
        self.same(table_fits(fold, WAYS, ("ab",), table[:4] + ((table[4][0], None), table[5])), (4, "answer"))
        # The first of two.
        two = ((table[0][0], 9), (table[1][0], 9)) + table[2:]
        self.same(table_fits(fold, WAYS, ("ab",), two), (0, "answer"))

    def test_spots_without_candidates(self):
        pair = shape_of("signs a\nrows 2\nstart s\nlot s\nway up(sign / none)\nway down(none / sign)")
        spot = ("s", ((0, 1), (0, 1)))
        self.assertIs(table_fits(pair, ("first",), ("a", "a"), ((spot, None),)), None)
        tree = ("s", 0, ((1,), (0,)), ())
        self.same(table_fits(pair, ("first",), ("a", "a"), ((spot, tree),)), (0, "answer"))
        self.assertIs(table_fits(shape_of(UNMADE), ("first",), ("aa",), ()), None)
        self.same(table_fits(shape_of(UNMADE), ("first",), ("aa",), ((("s", ((0, 2),)), None),)), (0, "spot"))

    def test_drawn_tables(self):
        faults = 0
        for seed, (draw, book) in enumerate(ringless(range(120))):
            chance = random.Random(seed)
            shape, rows = Shape(book), draw.drawn_rows()
            ask = AskDraw(seed, DRAWN).ask(seed % 3)
            table = early_table(shape, ask, rows)
            self.assertIs(table_fits(shape, ask, rows, table), None)
            if table:
                at = chance.randrange(len(table))
                told = self.another(ask, table[at][1])
                torn = table[:at] + ((table[at][0], told),) + table[at + 1:]
                # k is the first place at which the table and the early one differ.
                self.same(table_fits(shape, ask, rows, torn), (at, "answer"))
                self.same(table_fits(shape, ask, rows, table[:at] + table[at + 1:]), (at, "spot"))
                faults += 1
        self.assertGreater(faults, 40)

    def another(self, ask, told):
        """Another answer, by the same ask to some bag."""
        if told is not None:
            return None
        if ask[0] == "each":
            return ((0, self.another(ask[2], None)),)
        if ask[0] == "against":
            return ((0, 0),)
        if asks_in(ask):
            return (self.another(ask[1], None), self.another(ask[2], None))
        basic = {"spread": ((0, 1),), "names": ("a",), "first": ("s", 0, ((0,),), ())}
        return basic.get(ask[0], (0,) if ask[0] in ("best", "ends", "within") else 0)

    def test_rows(self):
        fold = shape_of(FOLD)
        self.raises(BadRows(0), table_fits, fold, WAYS, ("c",), 7)
        self.raises(BadRows(-1), table_fits, fold, WAYS, (), ())
        self.raises(BadRows(1), table_fits, shape_of(TWIN), ("first",), ("", "c"), ())
        self.raises(BadRows(0), table_fits, shape_of(EDGE), ("first",), (4,), ())
