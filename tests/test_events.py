"""[84], [10]: what code does, how often it turns, and its idle loops."""

from chooseonce.events import events_of, idle_loops, turns_of
from tests.helping import EDGE, FOLD, TWIN, Case
from tests.test_prices import shape_of


def number(integer):
    return (integer, ())


def of(name, integer=0):
    return (integer, ((name, 1),))


def loop(variable, low, high, *body):
    return ("for", variable, (low,), (high,), body)


# The code of LOOPS in the document.
LOOPED = (
    loop("v0", number(0), number(1),
         loop("i0", number(0), (0, (("n0", 1), ("v0", -1))),
              ("new", "fold"),
              ("if", (1, (("v0", -1),)), (loop("e0.0", of("i0"), of("i0"), ("look", "fold", 0)),)),
              loop("e0.0", of("i0", 1), (0, (("i0", 1), ("v0", 1))),
                   loop("e0.1", (0, (("i0", 1), ("v0", 1))), (0, (("i0", 1), ("v0", 1))),
                        ("look", "fold", 1))))),
)


def at(*stretch):
    return ("fold", stretch)


class Events(Case):
    def setUp(self):
        self.fold = shape_of(FOLD)

    def does(self, code, lengths, *wanted):
        self.same(events_of(self.fold, lengths, code), wanted)

    def test_ordinary(self):
        self.does(LOOPED, (0,), ("new", at((0, 0))), ("look", at((0, 0)), 0, ((0,),)))
        self.same((turns_of((1,), LOOPED), idle_loops((1,), LOOPED)), (9, 0))
        self.does(LOOPED, (1,), ("new", at((0, 0))), ("look", at((0, 0)), 0, ((0,),)),
                  ("new", at((1, 1))), ("look", at((1, 1)), 0, ((0,),)),
                  ("new", at((0, 1))), ("look", at((0, 1)), 1, ((1, 0),)))
        self.does((), (5,))
        self.same((turns_of((5,), ()), idle_loops((5,), ())), (0, 0))

    def test_variables_that_are_not_set(self):
        self.does((("new", "fold"), ("look", "fold", 1)), (3,),
                  ("new", at((0, 0))), ("look", at((0, 0)), 1, ((0, 0),)))
        # On one row n1 is 0; behind its loop a variable is 0 again.
        code = (loop("v0", of("n1", 1), of("n1", 2), ("new", "fold")), ("new", "fold"))
        self.does(code, (3,), ("new", at((0, 1))), ("new", at((0, 2))), ("new", at((0, 0))))

    def test_loops_with_one_variable(self):
        code = (loop("i0", number(1), number(2), ("new", "fold"),
                     loop("i0", of("i0", 3), of("i0", 4), ("new", "fold")), ("new", "fold")),)
        froms = [told[1][1][0][0] for told in events_of(self.fold, (9,), code)]
        # The lows and highs of the inner loop are worked out once each time it is done.
        self.same(froms, [1, 4, 5, 1, 2, 5, 6, 2])
        self.same(turns_of((9,), code), 6)

    def test_lows_and_highs(self):
        code = (("for", "v0", (number(1), of("n0", -3), number(0)), (number(5), of("n0")), (("new", "fold"),)),)
        widths = lambda length: [told[1][1][0][1] for told in events_of(self.fold, (length,), code)]
        self.same((widths(2), widths(6), widths(9)), ([1, 2], [3, 4, 5], []))
        # The greatest of the lows, the least of the highs, in any sequence.
        code = (("for", "v0", (number(2), number(1)), (number(2), number(3)), (("new", "fold"),)),)
        self.does(code, (0,), ("new", at((0, 2))))
        # What the body sets changes neither.
        code = (loop("w", number(0), number(2), loop("w", of("w", 5), of("w", 5), ("new", "fold"))),)
        self.same(turns_of((0,), code), 6)

    def test_if(self):
        for integer, wanted in ((-1, 0), (0, 0), (1, 1), (2, 1)):
            code = (("if", number(integer), (("new", "fold"),)),)
            self.same(len(events_of(self.fold, (0,), code)), wanted)
        code = (("if", of("n0", -2), (("if", of("n0", -3), (("new", "fold"),)),)),)
        self.same([len(events_of(self.fold, (length,), code)) for length in (2, 3, 4)], [0, 0, 1])

    def test_what_is_no_spot_and_no_cut(self):
        code = (loop("i0", number(-2), number(-2), loop("v0", number(-3), number(-3), ("new", "fold"),
                loop("e0.1", number(4), number(4), ("look", "fold", 2)))),)
        self.does(code, (1,), ("new", at((-2, -5))), ("look", at((-2, -5)), 2, ((2, 4, -4, 0),)))
        # Any lot of the program and any way of it, live or not.
        edge = shape_of(EDGE)
        self.same(events_of(edge, (1,), (("new", "spare"), ("look", "core", 2), ("look", "lost", 0))),
                  (("new", ("spare", ((0, 0),))), ("look", ("core", ((0, 0),)), 2, ((0, 0),)),
                   ("look", ("lost", ((0, 0),)), 0, ((0,),))))

    def test_two_rows(self):
        twin = shape_of(TWIN)
        code = (loop("i1", of("n1"), of("n1"), loop("v1", number(2), number(2), loop("e1.0", number(7), number(7),
                loop("e0.1", of("n0"), of("n0"), ("new", "pair"), ("look", "all", 0))))),)
        self.same(events_of(twin, (3, 5), code), (
            ("new", ("pair", ((0, 0), (5, 7)))), ("look", ("all", ((0, 0), (5, 7))), 0, ((0, 3), (2, -7)))))

    def test_turns(self):
        empty = loop("w", number(1), number(4))
        self.same(turns_of((0,), (empty,)), 4)
        self.same(turns_of((0,), (loop("w", number(1), number(3), empty, ("if", number(0), (empty,))),)), 3 + 12)
        self.same(turns_of((0,), (loop("w", number(1), number(0), empty),)), 0)

    def test_idle_loops(self):
        for variable, wanted in (("e0.1", 1), ("e1.1", 1), ("e0.10", 1), ("e0.0", 0), ("e1.0", 0), ("w", 0),
                                 ("v0", 0), ("i1", 0)):
            code = (loop(variable, number(1), number(0), ("new", "fold")),)
            self.same(idle_loops((0,), code), wanted)
        inner = loop("e0.2", of("w"), number(2), ("new", "fold"))
        # It is done for w from 1 to 5, and has no value for 3, 4 and 5; in a body that is not done, not at all.
        self.same(idle_loops((0,), (loop("w", number(1), number(5), inner),)), 3)
        self.same(idle_loops((0,), (("if", number(0), (inner,)), loop("w", number(3), number(2), inner))), 0)
        self.same(idle_loops((4,), (loop("w", of("n0"), of("n0"), inner, inner),)), 2)
