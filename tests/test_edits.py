"""[99] to [101], [105]: edits, old stretches, and what is carried."""

import random

from chooseonce.books import Book
from chooseonce.carrying import carried
from chooseonce.edits import edited, old_stretch, undoing
from chooseonce.errors import BadPlace, BadRows, BadSign
from chooseonce.programs import read
from chooseonce.shapes import Shape
from chooseonce.spots import spots_of
from chooseonce.tables import early_table
from tests.askdrawing import AskDraw
from tests.helping import EDGE, FOLD, TWIN, Case
from tests.runreckoning import Reckoned
from tests.shapedrawing import ringless
from tests.test_mending import DRAWN
from tests.test_prices import shape_of


def all_edits(signs, rows):
    """All edits that are let."""
    edits = []
    for row, text in enumerate(rows):
        edits += [("set", row, at, sign) for at in range(len(text)) for sign in signs]
        edits += [("put", row, at, sign) for at in range(len(text) + 1) for sign in signs]
        edits += [("take", row, at) for at in range(len(text))]
    return edits


def place_ahead(edit, place):
    """Which sign of the row ahead of the edit stands at this place behind it; None if none does."""
    how, at = edit[0], edit[2]
    if how == "set":
        return None if place == at else place
    if how == "put":
        return None if place == at else place - (place > at)
    return place + (place >= at)


class Edits(Case):
    def setUp(self):
        self.book = Book(read(FOLD))

    def test_edited(self):
        for edit, wanted in ((("set", 0, 0, "b"), "bab"), (("set", 0, 1, "b"), "abb"), (("set", 0, 2, "a"), "aaa"),
                             (("put", 0, 0, "b"), "baab"), (("put", 0, 2, "b"), "aabb"), (("put", 0, 3, "a"), "aaba"),
                             (("take", 0, 0), "ab"), (("take", 0, 1), "ab"), (("take", 0, 2), "aa")):
            self.same(edited(self.book, ("aab",), edit), (wanted,))
        self.same(edited(self.book, ("",), ("put", 0, 0, "b")), ("b",))
        twin = Book(read(TWIN))
        self.same(edited(twin, ("ab", "b"), ("put", 1, 1, "a")), ("ab", "ba"))
        self.same(edited(twin, ("ab", "b"), ("take", 0, 1)), ("a", "b"))
        self.same(edited(twin, ("ab", "b"), ("set", 1, 0, "a")), ("ab", "a"))

    def test_wrong(self):
        for edit in (("put", 0, 4, "c"), ("put", 0, -1, "a"), ("set", 0, 3, "a"), ("set", 0, -1, "a"), ("take", 0, 3),
                     ("take", 0, -1), ("take", 1, 0), ("set", -1, 0, "a"), ("put", 2, 0, "a"), ("set", 9, 9, "zz")):
            self.raises(BadPlace(edit[1], edit[2]), edited, self.book, ("aab",), edit)
        for how in ("set", "take"):
            self.raises(BadPlace(0, 0), edited, self.book, ("",), (how, 0, 0, "a")[:3 if how == "take" else 4])
        for sign in ("c", "", "ab", "A"):
            for how, at in (("set", 2), ("put", 3)):
                self.raises(BadSign(sign), edited, self.book, ("aab",), (how, 0, at, sign))

    def test_undoing(self):
        self.same(undoing(("aab",), ("take", 0, 2)), ("put", 0, 2, "b"))
        self.same(undoing(("aab",), ("put", 0, 3, "a")), ("take", 0, 3))
        self.same(undoing(("aab",), ("set", 0, 1, "b")), ("set", 0, 1, "a"))
        for text, every in ((FOLD, [("",), ("a",), ("abb",)]), (TWIN, [("", ""), ("a", "ba"), ("ab", "")])):
            book = Book(read(text))
            for rows in every:
                for edit in all_edits(book.signs, rows):
                    back = undoing(rows, edit)
                    self.same(edited(book, edited(book, rows, edit), back), rows)
                    self.same((back[1:3], len(back)), (edit[1:3], 3 if edit[0] == "put" else 4))

    def test_old_stretch(self):
        self.same((old_stretch(((1, 1),), ("take", 0, 1)), old_stretch(((1, 2),), ("put", 0, 1, "a"))),
                  (((1, 1),), None))
        # Stretches of no width at the place of the edit.
        for how, at, wanted in (("set", 1, (1, 1)), ("set", 0, (1, 1)), ("put", 1, (1, 1)), ("put", 0, (0, 0)),
                                ("take", 1, (1, 1)), ("take", 0, (2, 2)), ("take", 2, (1, 1))):
            self.same(old_stretch(((1, 1),), (how, 0, at, "a")), (wanted,))
        for how, at, wanted in (("set", 1, (2, 4)), ("set", 2, None), ("set", 3, None), ("set", 4, (2, 4)),
                                ("put", 1, (1, 3)), ("put", 2, None), ("put", 3, None), ("put", 4, (2, 4)),
                                ("take", 1, (3, 5)), ("take", 2, (3, 5)), ("take", 3, None), ("take", 4, (2, 4))):
            told = old_stretch(((2, 4),), (how, 0, at, "a")[:3 if how == "take" else 4])
            self.same(told, None if wanted is None else (wanted,))
        # The pair of the other row stays.
        self.same(old_stretch(((2, 4), (0, 7)), ("take", 0, 2)), ((3, 5), (0, 7)))
        self.same(old_stretch(((2, 4), (0, 7)), ("put", 1, 7, "a")), ((2, 4), (0, 7)))
        self.same(old_stretch(((2, 4), (1, 7)), ("put", 1, 0, "a")), ((2, 4), (0, 6)))
        self.same(old_stretch(((2, 4), (1, 7)), ("put", 1, 5, "a")), None)

    def test_old_stretches_have_the_same_signs(self):
        for edit in all_edits("a", ("bbbb",)):
            behind = 4 + {"set": 0, "put": 1, "take": -1}[edit[0]]
            for end in range(behind + 1):
                for start in range(end + 1):
                    places = [place_ahead(edit, place) for place in range(start, end)]
                    told = old_stretch(((start, end),), edit)
                    if places:
                        whole = None not in places and places == list(range(places[0], places[0] + len(places)))
                        self.same(told, ((places[0], places[-1] + 1),) if whole else None)
                    else:
                        self.same(told[0][1] - told[0][0], 0)


class Carried(Case):
    def test_ordinary(self):
        fold = shape_of(FOLD)
        table = ((("fold", ((0, 1),)), 7), (("fold", ((1, 1),)), 8))
        self.same(carried(fold, ("a",), ("put", 0, 1, "b"), table),
                  ((("fold", ((1, 1),)), 8), (("fold", ((2, 2),)), 8), (("fold", ((0, 1),)), 7)))
        self.same(carried(fold, ("a",), ("put", 0, 1, "b"), table[::-1]),
                  carried(fold, ("a",), ("put", 0, 1, "b"), table))
        # The old stretch of one without width is that at the same place.
        self.same(carried(fold, ("a",), ("take", 0, 0), table), ())
        self.same(carried(fold, ("a",), ("take", 0, 0), ((("fold", ((0, 0),)), 9),)), ((("fold", ((0, 0),)), 9),))
        self.same(carried(fold, ("a",), ("set", 0, 0, "a"), table), ((("fold", ((1, 1),)), 8),))
        self.same(carried(fold, ("",), ("put", 0, 0, "a"), ((("fold", ((0, 0),)), None),)),
                  ((("fold", ((0, 0),)), None), (("fold", ((1, 1),)), None)))
        self.same(carried(fold, ("a",), ("put", 0, 1, "b"), ()), ())

    def test_old_spots_that_are_none(self):
        # The old stretch lies beyond the margins of the lot on the rows ahead.
        edge = shape_of(EDGE)
        for rows in (("b",), ("aab",), ("aaaaa",)):
            self.look(edge, ("first",), rows)
        self.same(carried(edge, ("ab",), ("take", 0, 1), ((("core", ((1, 2),)), 5),)), ())

    def test_a_spot_of_the_rows_behind_alone(self):
        # Behind the edit the stretch is that of the whole; its old one is not.
        text = "signs a\nrows 1\nstart s\nlot s\nway f(t, t)\nlot t\nway g(run 1 2)"
        shape = shape_of(text)
        table = early_table(shape, ("first",), ("aaaa",))
        self.same(carried(shape, ("aaaa",), ("take", 0, 3), table), self.by_rules(shape, ("aaaa",), ("take", 0, 3), table))
        self.assertNotIn(("s", ((0, 3),)), dict(carried(shape, ("aaaa",), ("take", 0, 3), table)))

    def by_rules(self, shape, rows, edit, table):
        ahead = Reckoned(shape.book.program, tuple(len(row) for row in rows))
        behind = tuple(len(row) for row in edited(shape.book, rows, edit))
        found = []
        for lot, stretch in Reckoned(shape.book.program, behind).spots():
            old = old_stretch(stretch, edit)
            if old is not None and ahead.is_spot((lot, old)) and (lot, old) in dict(table):
                found.append(((lot, stretch), dict(table)[(lot, old)]))
        return tuple(found)

    def look(self, shape, ask, rows):
        """What is carried are pairs of the early table of the rows behind."""
        table = early_table(shape, ask, rows)
        for edit in all_edits(shape.book.signs, rows):
            got = carried(shape, rows, edit, table)
            self.same(got, self.by_rules(shape, rows, edit, table))
            fresh = dict(early_table(shape, ask, edited(shape.book, rows, edit)))
            for spot, told in got:
                self.same(told, fresh[spot])

    def test_against_the_early_table_behind(self):
        for row in ("", "a", "abba"):
            self.look(shape_of(FOLD), ("each", "worth", ("names", "dots")), (row,))
        self.look(shape_of(TWIN), ("beside", ("total", "ways"), ("names", "told")), ("a", "ab"))

    def test_drawn_programs(self):
        for seed, (draw, book) in enumerate(ringless(range(30))):
            self.look(Shape(book), AskDraw(seed, DRAWN).ask(seed % 3), draw.drawn_rows())

    def test_tables_with_spots_left_out(self):
        fold = shape_of(FOLD)
        for seed in range(20):
            chance = random.Random(seed)
            spots = [spot for spot in spots_of(fold, (4,)) if chance.random() < 0.6]
            chance.shuffle(spots)
            table = tuple((spot, number) for number, spot in enumerate(spots))
            for edit in all_edits("ab", ("abba",)):
                self.same(carried(fold, ("abba",), edit, table), self.by_rules(fold, ("abba",), edit, table))

    def test_wrong(self):
        fold = shape_of(FOLD)
        self.raises(BadRows(0), carried, fold, ("c",), ("put", 0, 9, "c"), ())
        self.raises(BadRows(-1), carried, fold, ("a", "a"), ("put", 0, 0, "a"), ())
        self.raises(BadPlace(0, 9), carried, fold, ("a",), ("put", 0, 9, "c"), ())
        self.raises(BadPlace(1, 0), carried, fold, ("a",), ("take", 1, 0), ())
        self.raises(BadSign("c"), carried, fold, ("a",), ("put", 0, 1, "c"), ())
