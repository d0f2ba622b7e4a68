"""[79]: runs by plans and orders, those that are resumed, and tables."""

import random
from unittest import mock

from chooseonce.answers import answer_to
from chooseonce.bags import bag_of
from chooseonce.books import Book
from chooseonce.borders import passes
from chooseonce.errors import BadOrder, BadPlan, BadRows, TooLong
from chooseonce.planning import all_kept, price_of
from chooseonce.prices import work_of
from chooseonce.programs import read
from chooseonce.runs import resumed, run_plan
from chooseonce.shapes import Shape
from chooseonce.spots import spots_of
from chooseonce.stretches import widths_of
from chooseonce.tables import early, early_table, entry_of
from tests.askdrawing import AskDraw
from tests.helping import EDGE, FOLD, TWIN, Case
from tests.reckoning import early as early_by_rules
from tests.reckoning import entry
from tests.runreckoning import Reckoned
from tests.shapedrawing import ringless
from tests.test_choosing import ASKS, MORE
from tests.test_mending import DRAWN
from tests.test_needing import RUNS, listing_no_cuts
from tests.test_prices import DOUBLE, shape_of
from tests.test_spots import UNMADE

BOND = ("greatest", "worth")
WAYS = ("total", "ways")


def any_order(chance, reckoned, plan):
    """An order of the kept spots, each drawn of those whose needs stand earlier."""
    left = {spot: reckoned.needs(plan, spot) for spot in reckoned.kept(plan)}
    order = []
    while left:
        spot = chance.choice([spot for spot in left if left[spot] <= set(order)])
        order.append(spot)
        del left[spot]
    return tuple(order)


def kept_by(shape, lengths, plan):
    return tuple(spot for spot in spots_of(shape, lengths) if spot[0] in plan)


class Runs(Case):
    def test_ordinary(self):
        fold = shape_of(FOLD)
        self.same(run_plan(fold, BOND, ("ab",), (), ()), (1, 6, ()))
        order = kept_by(fold, (2,), ("fold",))
        told = run_plan(fold, WAYS, ("ab",), ("fold",), order)
        self.same(told, (2, price_of(fold, (2,), ("fold",)), tuple(zip(order, (1, 1, 1, 1, 1, 2)))))
        self.same(resumed(fold, WAYS, ("ab",), ("fold",), ()), told)

    def test_orders_that_are_not_that_of_spots(self):
        fold = shape_of(FOLD)
        order = (("fold", ((2, 2),)), ("fold", ((1, 1),)), ("fold", ((1, 2),)), ("fold", ((0, 2),)),
                 ("fold", ((0, 0),)), ("fold", ((0, 1),)))
        self.same(run_plan(fold, WAYS, ("ab",), ("fold",), order),
                  (2, 7, tuple(zip(order, (1, 1, 1, 2, 1, 1)))))

    def test_no_whole_spot(self):
        edge = shape_of(EDGE)
        self.same(run_plan(edge, ("first",), ("",), ("whole",), ()), (None, 0, ()))
        self.same(resumed(edge, ("first",), ("",), (), ()), (None, 0, ()))
        unmade = shape_of(UNMADE)
        self.same(run_plan(unmade, ("first",), ("aa",), (), ()), (None, 0, ()))
        self.same((early(unmade, ("first",), ("aa",)), early_table(unmade, ("first",), ("aa",))), (None, ()))

    def test_spots_without_candidates(self):
        pair = shape_of("signs a\nrows 2\nstart s\nlot s\nway up(sign / none)\nway down(none / sign)")
        self.same(early_table(pair, ("first",), ("a", "a")), ((("s", ((0, 1), (0, 1))), None),))
        self.same(run_plan(pair, ("first",), ("a", "a"), (), ()), (None, 0, ()))

    def test_two_parts_with_one_spot(self):
        double = shape_of(DOUBLE)
        told = run_plan(double, ("first",), ("a",), (), ())
        self.same(told[1], price_of(double, (1,), ()))
        self.same(told[0], early(double, ("first",), ("a",)))

    def test_known_entries(self):
        fold = shape_of(FOLD)
        whole, one = ("fold", ((0, 2),)), ("fold", ((1, 2),))
        spots = kept_by(fold, (2,), ("fold",))
        # What is told is believed, and costs nothing; None may be told, too.
        got = resumed(fold, WAYS, ("ab",), ("fold",), ((one, 100),))
        self.same(got, (101, 7 - 1, tuple(zip(spots, (1, 1, 1, 1, 100, 101)))))
        got = resumed(fold, WAYS, ("ab",), ("fold",), ((one, None),))
        self.same(got, (1, 7 - 1, tuple(zip(spots, (1, 1, 1, 1, None, 1)))))
        got = resumed(fold, WAYS, ("ab",), ("fold",), ((whole, 5), (one, 100)))
        self.same(got, (5, 7 - 3, tuple(zip(spots, (1, 1, 1, 1, 100, 5)))))
        every = tuple((spot, 3) for spot in spots[::-1])
        self.same(resumed(fold, WAYS, ("ab",), ("fold",), every), (3, 0, tuple(zip(spots, (3,) * 6))))

    def test_drawn_programs_and_plans(self):
        for seed, (draw, book) in enumerate(ringless(range(150))):
            chance = random.Random(seed)
            shape, rows = Shape(book), draw.drawn_rows()
            reckoned = Reckoned(book.program, tuple(len(row) for row in rows))
            ask = AskDraw(seed, DRAWN).ask(seed % 3)
            known = {}
            entries = {spot: entry(book, ask, rows, *spot, known) for spot in reckoned.spots()}
            whole = early_by_rules(book, ask, rows)
            self.same(early(shape, ask, rows), whole)
            self.same(early_table(shape, ask, rows), tuple(entries.items()))
            for plan in reckoned.plans():
                price, order = reckoned.price(plan), any_order(chance, reckoned, plan)
                self.same(run_plan(shape, ask, rows, plan, order),
                          (whole, price, tuple((spot, entries[spot]) for spot in order)))
                self.look_resumed(chance, shape, ask, rows, plan, entries, whole, price)

    def look_resumed(self, chance, shape, ask, rows, plan, entries, whole, price):
        kept = [spot for spot in entries if spot[0] in plan]
        told = chance.sample(kept, chance.randint(0, len(kept)))
        known = tuple((spot, entries[spot]) for spot in told)
        saved = sum(work_of(shape, plan, spot[0], widths_of(spot[1])) for spot in told)
        self.same(resumed(shape, ask, rows, plan, known),
                  (whole, price - saved, tuple((spot, entries[spot]) for spot in kept)))

    def test_deep_runs_of_spots_that_are_not_kept(self):
        line = shape_of("signs a\nrows 1\nstart s\nlot s\nway f(sign, s)\nway e(none)")
        tree, looks, kept = run_plan(line, ("first",), ("a" * 140,), (), ())
        self.same((looks, kept), (141, ()))
        self.same(tree, early(line, ("first",), ("a" * 140,)))


class Tables(Case):
    def test_ordinary(self):
        fold = shape_of(FOLD)
        table = early_table(fold, WAYS, ("a",))
        self.same(table, ((("fold", ((0, 0),)), 1), (("fold", ((1, 1),)), 1), (("fold", ((0, 1),)), 1)))
        self.same(early(fold, BOND, ("abab",)), 2)
        self.same(early(fold, ("then", BOND, WAYS), ("abab",)), (2, 2))
        self.same(entry_of(fold, table, ("fold", ((1, 1),))), 1)

    def test_entry_of(self):
        fold = shape_of(FOLD)
        table = early_table(fold, ("names", "dots"), ("ab",))
        for spot, told in table:
            self.same(entry_of(fold, table, spot), told)
        left = table[1:4] + table[5:]
        self.same([entry_of(fold, left, spot) for spot, _ in table],
                  [None, *[told for _, told in table[1:4]], None, table[5][1]])
        self.assertIs(entry_of(fold, (), table[0][0]), None)
        self.assertIs(entry_of(fold, ((table[2][0], None),), table[2][0]), None)
        self.assertIs(entry_of(fold, table, ("fold", ((0, 3),))), None)

    def test_each_entry_is_the_answer_to_its_bag(self):
        shape, rows = shape_of(MORE), ("abba",)
        for ask in ASKS:
            for (lot, stretch), told in early_table(shape, ask, rows):
                self.same(told, answer_to(ask, bag_of(shape, ask, rows, lot, stretch)))

    def test_drawn_asks_that_pass(self):
        compared = 0
        for seed, (draw, book) in enumerate(ringless(range(120))):
            shape, rows = Shape(book), draw.drawn_rows()
            for number in range(3):
                ask = AskDraw(3 * seed + number, DRAWN).ask(number)
                if passes(book, ask):
                    for (lot, stretch), told in early_table(shape, ask, rows):
                        compared += 1
                        self.same(told, answer_to(ask, bag_of(shape, ask, rows, lot, stretch)))
        self.assertGreater(compared, 200)

    def test_one_shape_for_several_lengths(self):
        fold = shape_of(FOLD)
        told = [early(fold, WAYS, (row,)) for row in ("abab", "ab", "", "abab", "ba")]
        self.same(told, [7, 2, 1, 7, 2])
        self.same([len(early_table(fold, WAYS, (row,))) for row in ("ab", "", "abab")], [6, 1, 15])
        twin = shape_of(TWIN)
        self.same([early(twin, ("first",), rows) is None for rows in (("", ""), ("ab", "ab"), ("", "b"))],
                  [early_by_rules(twin.book, ("first",), rows) is None
                   for rows in (("", ""), ("ab", "ab"), ("", "b"))])


class Wrong(Case):
    def test_rows_ahead_of_all_else(self):
        fold = shape_of(FOLD)
        beyond = (("fold", ((9, 9),)),)
        for rows, error in ((("abc",), BadRows(0)), ((), BadRows(-1)), (["ab"], BadRows(-1)), (("a", "b"), BadRows(-1)),
                            ((3,), BadRows(0)), (("a" * 5000 + "c",), BadRows(0))):
            self.raises(error, run_plan, fold, WAYS, rows, ("lost",), beyond)
            self.raises(error, resumed, fold, WAYS, rows, ("lost",), ())
            self.raises(error, early, fold, WAYS, rows)
            self.raises(error, early_table, fold, WAYS, rows)
        self.raises(BadRows(1), early, shape_of(TWIN), ("first",), ("ab", "abc"))
        self.raises(BadRows(0), early, shape_of(UNMADE), ("first",), ("b",))

    def test_plans_ahead_of_prices_ahead_of_orders(self):
        fold = shape_of(FOLD)
        order = (("fold", ((9, 9),)),)
        rows = ("ab" * 10,)
        price = price_of(fold, (20,), ())
        self.raises(BadPlan("lost"), run_plan, fold, WAYS, rows, ("lost",), order)
        self.raises(BadPlan("fold"), run_plan, fold, WAYS, rows, ("fold", "fold"), order)
        self.raises(BadPlan("lost"), resumed, fold, WAYS, rows, ("fold", "lost"), ())
        self.raises(TooLong(price), run_plan, fold, WAYS, rows, (), order)
        # What is known of a run makes it none the shorter.
        self.raises(TooLong(price), resumed, fold, WAYS, rows, (), ())
        self.raises(BadOrder(0, "spot"), run_plan, fold, WAYS, ("ab",), (), order)
        self.raises(BadOrder(0, "left"), run_plan, fold, WAYS, ("ab",), ("fold",), ())
        spots = kept_by(fold, (2,), ("fold",))
        self.raises(BadOrder(4, "early"), run_plan, fold, WAYS, ("ab",), ("fold",), spots[:4] + spots[5:])
        self.raises(BadOrder(6, "twice"), run_plan, fold, WAYS, ("ab",), ("fold",), spots + spots)
        self.raises(BadPlan("edge"), resumed, shape_of(EDGE), ("first",), ("aa",), ("core", "edge"), ())

    def test_orders_are_judged_ahead_of_the_work(self):
        runs = shape_of(RUNS)
        whole, part = ("s", ((0, 54),)), ("s", ((0, 1),))
        with listing_no_cuts():
            for order, error in (((), BadOrder(0, "left")), ((part,), BadOrder(0, "spot")),
                                 ((whole, part), BadOrder(1, "spot")), ((whole, whole), BadOrder(1, "twice"))):
                self.raises(error, run_plan, runs, ("first",), ("ab" * 27,), ("s",), order)

    def test_prices_by_the_limit(self):
        fold = shape_of(FOLD)
        order = kept_by(fold, (4,), ("fold",))
        whole = order[-1:]
        calls = ((run_plan, ("fold",), order), (run_plan, (), ()), (resumed, ("fold",), ()),
                 (resumed, ("fold",), tuple((spot, 1) for spot in whole)), (early,), (early_table,))
        for call in calls:
            function, told = call[0], call[1:]
            price = price_of(fold, (4,), told[0] if told else ("fold",))
            with mock.patch("chooseonce.planning.MOST_LOOKS", price):
                function(fold, WAYS, ("abab",), *told)
            with mock.patch("chooseonce.planning.MOST_LOOKS", price - 1):
                self.raises(TooLong(price), function, fold, WAYS, ("abab",), *told)

    def test_the_limit(self):
        # Of a row of 80 signs a run 0 19 cuts 20 widths: 2 * 20 ** 4 and half of it.
        ways = ["way f(run 0 19, run 0 19, run 0 19, run 0 19, run 0 any)"] * 2
        ways.append("way f(run 0 19, run 0 19, run 0 19, run 0 9, run 0 any)")
        text = "signs ab\nrows 1\nstart s\nlot s\n" + "\n".join(ways)
        shape = shape_of(text)
        self.same(price_of(shape, (80,), ("s",)), 400000)
        self.same(early(shape, ("first",), ("b" * 80,)), ("s", 0, ((0, 0, 0, 0, 80),), ()))
        longer = shape_of(text + "\nway g(run 80 80)")
        order = (("s", ((0, 80),)),)
        for function, told in ((run_plan, (("s",), order)), (run_plan, ((), ())), (resumed, (("s",), ())),
                               (resumed, ((), ())), (early, ()), (early_table, ())):
            self.raises(TooLong(400001), function, longer, ("first",), ("b" * 80,), *told)
