"""[102], [103], [105]: the bench; (G13)."""

import random
from unittest import mock

from chooseonce.bags import once
from chooseonce.benches import Bench
from chooseonce.books import Book
from chooseonce.edits import edited, old_stretch, undoing
from chooseonce.errors import BadNumber, BadPlace, BadPlan, BadRows, BadSign, NoName, Ring, TooLong, TwiceNamed
from chooseonce.listing import all_candidates
from chooseonce.planning import price_of
from chooseonce.prices import work_of
from chooseonce.programs import read
from chooseonce.shapes import Shape
from chooseonce.spots import is_spot, spots_of, whole_spot
from chooseonce.stretches import widths_of
from tests.askdrawing import AskDraw
from tests.helping import CIRCLE, EDGE, FOLD, TWIN, Case
from tests.shapedrawing import ringless
from tests.test_edits import all_edits
from tests.test_mending import DRAWN
from tests.test_prices import shape_of
from tests.test_spots import UNMADE


class Model:
    """What a bench is to do, with the entries that spots have by a set of spots for each ask."""

    def __init__(self, program):
        self.shape = Shape(Book(program))
        self.rows = ("",) * self.shape.book.rows
        self.plans = {name: self.shape.useful for name in self.shape.book.asks()}
        self.known = {name: set() for name in self.plans}
        self.counts = {name: (0, 0) for name in self.plans}
        self.undoings = []

    def lengths(self):
        return tuple(len(row) for row in self.rows)

    def lay(self, rows):
        self.rows, self.undoings = rows, []
        self.known = {name: set() for name in self.plans}

    def change(self, edit):
        ahead, back = self.lengths(), undoing(self.rows, edit)
        self.rows = edited(self.shape.book, self.rows, edit)
        for name, known in self.known.items():
            self.known[name] = {
                (lot, stretch) for lot, stretch in self.kept(name)
                if old_stretch(stretch, edit) is not None and is_spot(self.shape, ahead, (lot, old_stretch(stretch, edit)))
                and (lot, old_stretch(stretch, edit)) in known}
        return back

    def kept(self, name):
        return [spot for spot in spots_of(self.shape, self.lengths()) if spot[0] in self.plans[name]]

    def due(self, name):
        plan = self.plans[name]
        work = lambda spot: work_of(self.shape, plan, spot[0], widths_of(spot[1]))
        due = sum(work(spot) for spot in self.kept(name) if spot not in self.known[name])
        whole = whole_spot(self.shape, self.lengths())
        return due if whole is None or whole[0] in plan else due + work(whole)

    def answer(self, name):
        self.counts[name] = (len(self.kept(name)) - len(self.known[name]), self.due(name))
        self.known[name] = set(self.kept(name))
        return once(self.shape, self.shape.book.ask(name), self.rows)


class Benches(Case):
    def test_ordinary(self):
        bench = Bench(read(FOLD))
        self.assertIs(bench.lay(("abab",)), None)
        self.same((bench.due("most"), bench.answer("most"), bench.made("most"), bench.looked("most")), (25, 2, 15, 25))
        self.assertIs(bench.edit(("set", 0, 1, "a")), None)
        self.same((bench.due("most"), bench.answer("most"), bench.made("most")), (15, 1, 6))
        bench.edit(("take", 0, 0))
        self.same((bench.due("most"), bench.undo(), bench.undo(), bench.undo(), bench.rows_now()),
                  (0, True, True, False, ("abab",)))

    def test_at_first(self):
        bench = Bench(read(FOLD))
        self.same((bench.rows_now(), bench.undo(), bench.many(), bench.due("how")), (("",), False, 1, 1))
        self.same((bench.made("how"), bench.looked("how")), (0, 0))
        self.same((bench.answer("how"), bench.made("how"), bench.looked("how"), bench.due("how")), ((0, 1), 1, 1, 0))
        # Each ask has its own entries.
        self.same((bench.due("most"), bench.made("most"), bench.looked("most")), (1, 0, 0))
        self.same(Bench(read(TWIN)).rows_now(), ("", ""))

    def test_an_answer_again_takes_nothing(self):
        bench = Bench(read(FOLD))
        bench.lay(("aba",))
        told = bench.answer("all")
        self.same((bench.answer("all"), bench.made("all"), bench.looked("all")), (told, 0, 0))

    def test_laid_again(self):
        bench = Bench(read(FOLD))
        bench.lay(("ab",))
        bench.answer("most")
        due = bench.due("most")
        bench.lay(("ab",))
        self.same((due, bench.due("most"), bench.made("most"), bench.looked("most")), (0, 7, 6, 7))

    def test_plans(self):
        bench = Bench(read(FOLD))
        bench.lay(("abb",))
        told = bench.answer("most")
        self.assertIs(bench.plan_by("most", ("fold",)), None)
        # The same plan, and yet all is blank.
        self.same((bench.due("most"), bench.due("how")), (14, 14))
        bench.plan_by("most", ())
        self.same((bench.due("most"), bench.answer("most"), bench.made("most"), bench.looked("most")), (15, told, 0, 15))
        # Nothing is kept, so the whole spot is due each time.
        self.same((bench.due("most"), bench.answer("most"), bench.looked("most")), (15, told, 15))
        bench.lay(("ab",))
        self.same((bench.due("most"), bench.due("how")), (6, 7))

    def test_a_set_of_the_same_sign(self):
        bench = Bench(read(FOLD))
        bench.lay(("ab",))
        bench.answer("most")
        bench.edit(("set", 0, 0, "a"))
        # Spots over the first sign are blank.
        self.same((bench.due("most"), bench.rows_now()), (1 + 2, ("ab",)))

    def test_undo(self):
        bench = Bench(read(FOLD))
        bench.lay(("ab",))
        bench.edit(("put", 0, 2, "b"))
        bench.edit(("take", 0, 0))
        self.same((bench.rows_now(), bench.undo(), bench.rows_now()), (("bb",), True, ("abb",)))
        # Behind an edit that is taken back another one; an undo is not one that can be taken back.
        bench.edit(("set", 0, 0, "b"))
        self.same((bench.undo(), bench.rows_now(), bench.undo(), bench.rows_now(), bench.undo(), bench.rows_now()),
                  (True, ("abb",), True, ("ab",), False, ("ab",)))
        bench.edit(("put", 0, 0, "b"))
        bench.lay(("a",))
        self.same((bench.undo(), bench.rows_now()), (False, ("a",)))

    def test_candidates(self):
        bench = Bench(read(FOLD))
        bench.lay(("abab",))
        trees = all_candidates(shape_of(FOLD), ("abab",))
        self.same((bench.many(), tuple(bench.nth(number) for number in range(7))), (7, trees))
        self.raises(BadNumber(7), bench.nth, 7)
        bench.edit(("take", 0, 3))
        self.same((bench.many(), bench.nth(2)), (3, all_candidates(shape_of(FOLD), ("aba",))[2]))

    def test_asks_that_do_not_pass(self):
        bench = Bench(read(FOLD.replace("1 + x1", "1 - x1")))
        for row in ("abab", "abba", "aabb"):
            bench.lay((row,))
            shape = shape_of(FOLD.replace("1 + x1", "1 - x1"))
            for name in ("most", "how", "all"):
                self.same(bench.answer(name), once(shape, shape.book.ask(name), (row,)))

    def test_no_useful_lot(self):
        bench = Bench(read(UNMADE + "\nask one = first"))
        bench.lay(("aa",))
        self.same((bench.answer("one"), bench.made("one"), bench.looked("one"), bench.due("one"), bench.many()),
                  (None, 0, 0, 0, 0))
        self.raises(BadPlan("s"), bench.plan_by, "one", ("s",))
        bench.edit(("put", 0, 0, "a"))
        self.same((bench.undo(), bench.answer("one")), (True, None))
        edge = Bench(read(EDGE + "\nask one = first"))
        self.same((edge.answer("one"), edge.due("one")), (None, 0))


class Wrong(Case):
    def test_programs(self):
        self.raises(TwiceNamed("most"), Bench, read(FOLD + "\nask most = first"))
        self.raises(Ring(("s",)), Bench, read(CIRCLE))

    def state(self, bench):
        names = ("most", "how", "all")
        return (bench.rows_now(), [(bench.due(name), bench.made(name), bench.looked(name)) for name in names])

    def test_what_raises_changes_nothing(self):
        bench = Bench(read(FOLD))
        bench.lay(("aba",))
        bench.answer("most")
        bench.edit(("put", 0, 0, "b"))
        before = self.state(bench)
        for error, function, told in (
                (BadRows(0), bench.lay, (("abc",),)), (BadRows(-1), bench.lay, ((),)),
                (BadRows(-1), bench.lay, (["a"],)), (BadPlace(0, 5), bench.edit, (("put", 0, 5, "c"),)),
                (BadPlace(1, 0), bench.edit, (("take", 1, 0),)), (BadPlace(0, 4), bench.edit, (("set", 0, 4, "a"),)),
                (BadSign("c"), bench.edit, (("set", 0, 0, "c"),)), (BadPlan("lost"), bench.plan_by, ("most", ("lost",))),
                (BadPlan("fold"), bench.plan_by, ("most", ("fold", "fold"))),
                (NoName("none"), bench.plan_by, ("none", ("lost",))), (NoName("none"), bench.answer, ("none",)),
                (NoName("fold"), bench.due, ("fold",)), (NoName("worth"), bench.made, ("worth",)),
                (NoName(""), bench.looked, ("",)), (BadNumber(-1), bench.nth, (-1,))):
            self.raises(error, function, *told)
            self.same(self.state(bench), before)
        self.same((bench.undo(), bench.rows_now(), bench.undo()), (True, ("aba",), False))

    def test_a_run_that_is_too_long(self):
        bench = Bench(read(FOLD))
        bench.lay(("ab" * 10,))
        bench.answer("most")
        bench.plan_by("most", ())
        price = price_of(shape_of(FOLD), (20,), ())
        # due tells it all the same; the counts are those of the last answer that did not raise.
        self.same((bench.due("most"), bench.made("most"), bench.looked("most")), (price, 231, 1561))
        self.raises(TooLong(price), bench.answer, "most")
        self.raises(NoName("no"), bench.answer, "no")
        self.same((bench.made("most"), bench.looked("most"), bench.answer("how")[0]), (231, 1561, 10))

    def test_the_price_is_that_of_a_whole_run(self):
        bench = Bench(read(FOLD))
        bench.lay(("abab",))
        bench.answer("most")
        with mock.patch("chooseonce.planning.MOST_LOOKS", 24):
            self.same(bench.due("most"), 0)
            self.raises(TooLong(25), bench.answer, "most")
        with mock.patch("chooseonce.planning.MOST_LOOKS", 25):
            self.same(bench.answer("most"), 2)


class Sequences(Case):
    def step(self, chance, bench, model):
        names = list(model.plans)
        how = chance.choice(("lay", "edit", "edit", "edit", "edit", "undo", "plan", "answer", "answer", "answer"))
        if how == "lay":
            most = 4 if len(model.rows) == 1 else 2
            rows = tuple("".join(chance.choice(model.shape.book.signs) for _ in range(chance.randint(0, most)))
                         for _ in model.rows)
            bench.lay(rows)
            model.lay(rows)
        elif how == "edit":
            most = 5 if len(model.rows) == 1 else 3
            edits = [edit for edit in all_edits(model.shape.book.signs, model.rows)
                     if edit[0] != "put" or len(model.rows[edit[1]]) < most]
            edit = chance.choice(edits)
            bench.edit(edit)
            model.undoings.append(model.change(edit))
        elif how == "undo":
            self.assertIs(bench.undo(), bool(model.undoings))
            if model.undoings:
                model.change(model.undoings.pop())
        elif how == "plan":
            name = chance.choice(names)
            plan = tuple(lot for lot in model.shape.useful if chance.random() < 0.7)
            bench.plan_by(name, plan)
            model.plans[name], model.known[name] = plan, set()
        else:
            name = chance.choice(names)
            self.same(bench.answer(name), model.answer(name))
        self.same(bench.rows_now(), model.rows)
        for name in names:
            self.same((bench.made(name), bench.looked(name)), model.counts[name])
            self.same(bench.due(name), model.due(name))

    def follow(self, seed, program, steps):
        chance = random.Random(seed)
        bench, model = Bench(program), Model(program)
        for _ in range(steps):
            self.step(chance, bench, model)
        for name in model.plans:
            self.same(bench.answer(name), model.answer(name))
        self.same(bench.many(), len(all_candidates(model.shape, model.rows)))

    def test_programs_of_the_document(self):
        for seed in range(3):
            self.follow(seed, read(FOLD), 60)
            self.follow(seed, read(TWIN), 25)
            self.follow(seed, read(EDGE + "\nask one = first"), 60)

    def test_drawn_programs(self):
        for seed, (_, book) in enumerate(ringless(range(60))):
            draw = AskDraw(seed, DRAWN)
            asks = tuple((name, draw.ask(deep)) for deep, name in enumerate(("one", "two", "three")))
            self.follow(seed, book.program[:8] + (asks,), 25)
