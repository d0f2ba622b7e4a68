"""[85], [87]: whether code fits."""

import random

from chooseonce.codechecks import code_fits
from chooseonce.codes import code_of
from chooseonce.codetexts import read_code
from chooseonce.events import events_of
from chooseonce.planning import price_of, room_of
from chooseonce.shapes import Shape
from tests.codedrawing import code_telling
from tests.helping import EDGE, FOLD, LOOPS, TWIN, Case
from tests.runreckoning import Reckoned
from tests.shapedrawing import ringless
from tests.test_prices import DOUBLE, THREE, shape_of
from tests.test_spots import UNMADE

SHORT = """signs a
rows 1
start s
lot s
way f(t, t)
lot t
way g(sign)
way h(none)"""


def wrong_by_rules(reckoned, events):
    """What code_fits tells of a code with these events."""
    spots = reckoned.spots()
    due = {spot: {(way, cut): parts for way, cut, parts in reckoned.looks(spot)} for spot in spots}
    begun, looked = set(), {spot: set() for spot in spots}
    done = lambda spot: spot in begun and looked[spot] == set(due[spot])
    for number, event in enumerate(events):
        spot, why = event[1], None
        if event[0] == "new":
            why = "spot" if spot not in spots else "twice" if spot in begun else None
            begun.add(spot)
        elif spot not in begun:
            why = "new"
        elif event[2:] not in due[spot]:
            why = "cut"
        elif event[2:] in looked[spot]:
            why = "twice"
        elif not all(done(part) for part in due[spot][event[2:]]):
            why = "early"
        if why is not None:
            return (number, why)
        if event[0] == "look":
            looked[spot].add(event[2:])
    return None if all(done(spot) for spot in spots) else (len(events), "left")


class Fits(Case):
    def fits(self, shape, lengths, events, wanted):
        code = code_telling(events, shape.book.rows)
        self.same(events_of(shape, lengths, code), tuple(events))
        self.same(code_fits(shape, lengths, code), wanted)
        self.same(wrong_by_rules(Reckoned(shape.book.program, lengths), events), wanted)

    def test_ordinary(self):
        fold, code = shape_of(FOLD), read_code(LOOPS)
        self.same((code_fits(fold, (1,), code), code_fits(fold, (2,), code)), (None, (10, "left")))
        # It fits for some lengths alone.
        self.same((code_fits(fold, (0,), code), code_fits(fold, (3,), code)), (None, (14, "left")))
        self.same(code_fits(fold, (0,), read_code("new fold\nlook fold 1")), (1, "cut"))

    def test_each_fault(self):
        shape = shape_of(SHORT)
        due = list(events_of(shape, (1,), code_of(shape)))
        zero, one, first, second, third = [("t", ((at, at + width),)) for at, width in
                                           ((0, 0), (1, 0), (0, 1), (1, 1), (2, 1))]
        whole = ("s", ((0, 1),))
        self.fits(shape, (1,), due, None)
        self.fits(shape, (1,), [("new", second)], (0, "spot"))
        self.fits(shape, (1,), [("new", ("s", ((0, 0),)))], (0, "spot"))
        self.fits(shape, (1,), [("new", ("t", ((-1, 0),)))], (0, "spot"))
        self.fits(shape, (1,), [("new", ("t", ((1, 0),)))], (0, "spot"))
        self.fits(shape, (1,), [("new", zero), ("new", zero)], (1, "twice"))
        self.fits(shape, (1,), [("look", zero, 1, ((0,),))], (0, "new"))
        self.fits(shape, (1,), [("new", zero), ("look", one, 1, ((0,),))], (1, "new"))
        self.fits(shape, (1,), [("new", zero), ("look", zero, 0, ((1,),))], (1, "cut"))
        self.fits(shape, (1,), [("new", first), ("look", first, 1, ((0,),))], (1, "cut"))
        self.fits(shape, (1,), [("new", first), ("look", first, 1, ((1,),))], (1, "cut"))
        look = ("look", zero, 1, ((0,),))
        self.fits(shape, (1,), [("new", zero), look, look], (2, "twice"))
        # A part is not begun; it is begun, but its cut not looked at; it has no cuts, and is not begun.
        over = ("look", whole, 0, ((0, 1),))
        self.fits(shape, (1,), [("new", zero), look, ("new", whole), over], (3, "early"))
        self.fits(shape, (1,), [("new", zero), ("new", first), ("look", first, 0, ((1,),)), ("new", whole), over],
                  (4, "early"))
        self.fits(shape, (1,), due[:-1], (len(due) - 1, "left"))
        self.fits(shape, (1,), [event for event in due if event[1] != one], (len(due) - 3, "early"))
        self.fits(shape, (1,), [], (0, "left"))

    def test_the_first_that_holds(self):
        shape = shape_of(SHORT)
        beyond, whole = ("t", ((1, 2),)), ("s", ((0, 1),))
        self.fits(shape, (1,), [("look", beyond, 0, ((9,),))], (0, "new"))
        self.fits(shape, (1,), [("new", whole), ("look", whole, 0, ((1, 1),))], (1, "cut"))
        self.fits(shape, (1,), [("new", beyond), ("new", beyond)], (0, "spot"))
        # Twice comes ahead of early only where the look came earlier, which is never too early.
        self.fits(shape, (1,), [("new", whole), ("look", whole, 0, ((0, 1),)), ("look", whole, 0, ((0, 1),))],
                  (1, "early"))

    def test_events_out_of_sequence(self):
        shape = shape_of(SHORT)
        due = events_of(shape, (1,), code_of(shape))
        begun = [event for event in due if event[0] == "new"]
        looked = [event for event in due if event[0] == "look"]
        self.fits(shape, (1,), begun[::-1] + looked, None)
        self.fits(shape, (1,), begun + looked[::-1], (len(begun), "early"))

    def test_ways_that_are_not_live(self):
        edge = shape_of(EDGE)
        spot = ("core", ((0, 1),))
        self.fits(edge, (1,), [("new", spot), ("look", spot, 2, ((1, 0),))], (1, "cut"))
        self.fits(edge, (1,), [("new", ("spare", ((0, 1),)))], (0, "spot"))
        self.fits(edge, (1,), [("look", ("lost", ((0, 1),)), 0, ((1,),))], (0, "new"))

    def test_no_useful_lot(self):
        unmade = shape_of(UNMADE)
        self.assertIs(code_fits(unmade, (3,), ()), None)
        self.assertIs(code_fits(unmade, (3,), read_code("for w from 1 to 0\n  new s\nfor w from 0 to 5")), None)
        self.same(code_fits(unmade, (3,), (("new", "s"),)), (0, "spot"))

    def test_code_of(self):
        for text in (FOLD, EDGE, DOUBLE, TWIN, THREE):
            shape = shape_of(text)
            for lengths in ((0,), (1,), (5,)) if shape.book.rows == 1 else ((0, 0), (2, 1), (2, 3)):
                code = code_of(shape)
                self.assertIs(code_fits(shape, lengths, code), None)
                self.same(len(events_of(shape, lengths, code)), room_of(shape, lengths, shape.useful)
                          + price_of(shape, lengths, shape.useful))

    def test_drawn_events(self):
        found = set()
        for seed, (_, book) in enumerate(ringless(range(80))):
            chance = random.Random(seed)
            shape = Shape(book)
            lengths = chance.choice(((1,), (3,)) if book.rows == 1 else ((1, 1), (2, 0)))
            reckoned = Reckoned(book.program, lengths)
            due = list(events_of(shape, lengths, code_of(shape)))
            self.assertIs(code_fits(shape, lengths, code_of(shape)), None)
            for _ in range(6):
                events = list(due)
                for _ in range(chance.randint(1, 2)):
                    at, other = chance.randrange(len(events) + 1), chance.randrange(len(events) + 1)
                    events = events[:at] + chance.choice(([], events[other:other + 1])) + events[at + 1:]
                wanted = wrong_by_rules(reckoned, events)
                found.add(None if wanted is None else wanted[1])
                self.same(code_fits(shape, lengths, code_telling(events, book.rows)), wanted)
        self.assertLessEqual({None, "twice", "early", "left", "new"}, found)
