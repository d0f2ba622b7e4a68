"""[86], [87]: the tables that codes fill."""

from unittest import mock

from chooseonce.coderuns import run_code
from chooseonce.codes import code_of
from chooseonce.codetexts import read_code
from chooseonce.errors import BadCode, BadRows, TooLong
from chooseonce.events import events_of
from chooseonce.shapes import Shape
from chooseonce.tables import early_table
from tests.askdrawing import AskDraw
from tests.codedrawing import code_telling
from tests.helping import FOLD, LOOPS, TWIN, Case
from tests.shapedrawing import ringless
from tests.test_choosing import ASKS, MORE
from tests.test_mending import DRAWN
from tests.test_prices import shape_of
from tests.test_spots import UNMADE

WAYS = ("total", "ways")


class Runs(Case):
    def test_ordinary(self):
        fold, code = shape_of(FOLD), read_code(LOOPS)
        self.same(run_code(fold, WAYS, ("b",), code),
                  ((("fold", ((0, 0),)), 1), (("fold", ((1, 1),)), 1), (("fold", ((0, 1),)), 1)))
        for ask in ASKS:
            shape = shape_of(MORE)
            self.same(run_code(shape, ask, ("abba",), code_of(shape)), early_table(shape, ask, ("abba",)))

    def test_another_sequence(self):
        # The spots of the table stand in their order, whatever the sequence of the events.
        fold = shape_of(FOLD)
        due = events_of(fold, (2,), code_of(fold))
        begun = [event for event in due if event[0] == "new"][::-1]
        code = code_telling(begun + [event for event in due if event[0] == "look"], 1)
        self.same(run_code(fold, ("names", "dots"), ("ab",), code), early_table(fold, ("names", "dots"), ("ab",)))

    def test_looks_that_do_not_hold(self):
        fold = shape_of(FOLD)
        told = dict(run_code(fold, WAYS, ("aa",), code_of(fold)))
        self.same(told[("fold", ((0, 2),))], 1)
        text = "signs ab\nrows 1\nstart s\nlot s\nway f(sign(a), s)\nway e(none)\njudge j number\nfor f x1\nfor e 0"
        self.same(run_code(shape_of(text), ("least", "j"), ("b",), code_of(shape_of(text))),
                  ((("s", ((1, 1),)), 0), (("s", ((0, 1),)), None)))

    def test_asks_that_do_not_pass_stay_as_they_are(self):
        falling = shape_of(FOLD.replace("1 + x1", "1 - x1"))
        for row in ("abab", "aabbab"):
            self.same(run_code(falling, ("greatest", "worth"), (row,), code_of(falling)),
                      early_table(falling, ("greatest", "worth"), (row,)))

    def test_no_useful_lot(self):
        self.same(run_code(shape_of(UNMADE), ("first",), ("aa",), ()), ())
        self.same(run_code(shape_of(UNMADE), ("first",), ("aa",), code_of(shape_of(UNMADE))), ())

    def test_drawn_programs(self):
        for seed, (draw, book) in enumerate(ringless(range(120))):
            shape, rows = Shape(book), draw.drawn_rows()
            ask = AskDraw(seed, DRAWN).ask(seed % 3)
            self.same(run_code(shape, ask, rows, code_of(shape)), early_table(shape, ask, rows))


class Wrong(Case):
    def test_rows_ahead_of_code_ahead_of_prices(self):
        fold, code = shape_of(FOLD), read_code(LOOPS)
        self.raises(BadRows(0), run_code, fold, WAYS, ("abc",), code)
        self.raises(BadRows(-1), run_code, fold, WAYS, ("a", "b"), ())
        self.raises(BadRows(1), run_code, shape_of(TWIN), ("first",), ("a", "c"), ())
        self.raises(BadCode(10, "left"), run_code, fold, WAYS, ("ba",), code)
        with mock.patch("chooseonce.planning.MOST_LOOKS", 2):
            self.raises(BadRows(0), run_code, fold, WAYS, ("abc",), code)
            self.raises(BadCode(10, "left"), run_code, fold, WAYS, ("ba",), code)
            self.raises(TooLong(3), run_code, fold, WAYS, ("b",), code)
        with mock.patch("chooseonce.planning.MOST_LOOKS", 3):
            self.same(len(run_code(fold, WAYS, ("b",), code)), 3)

    def test_the_limit(self):
        # With no plan but that of all kept: 400001 looks.
        ways = ["way f(run 0 19, run 0 19, run 0 19, run 0 19, run 0 any)"] * 2
        ways += ["way f(run 0 19, run 0 19, run 0 19, run 0 9, run 0 any)", "way g(run 80 80)"]
        shape = shape_of("signs b\nrows 1\nstart s\nlot s\n" + "\n".join(ways))
        with mock.patch("chooseonce.coderuns.wrong_event", lambda shape, lengths, events: None):
            self.raises(TooLong(400001), run_code, shape, ("first",), ("b" * 80,), ())
        self.raises(BadCode(0, "left"), run_code, shape, ("first",), ("b" * 80,), ())
