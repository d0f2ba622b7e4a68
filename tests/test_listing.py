"""[5], [50]: all candidates; (G3), (G4)."""

from chooseonce.books import Book
from chooseonce.errors import BadRows
from chooseonce.listing import all_candidates, candidates_of
from chooseonce.programs import read
from chooseonce.shapes import Shape
from chooseonce.standing import stands
from chooseonce.stretches import widths_of
from tests.helping import EDGE, FOLD, TWIN, Case
from tests.listing import nodes, stretches_under
from tests.reckoning import all_listed
from tests.shapedrawing import ringless

ONE, EDGES, TWO = Shape(Book(read(FOLD))), Shape(Book(read(EDGE))), Shape(Book(read(TWIN)))


def whole(rows):
    return tuple((0, len(row)) for row in rows)


class Listing(Case):
    def compare(self, shape, rows, lots=None):
        """Compares with what is listed straight from [5]; returns how many there are of the whole."""
        listed = all_listed(shape.book.program, rows)
        for (lot, stretch), trees in listed.items():
            self.same(candidates_of(shape, rows, lot, stretch), tuple(trees))
        trees = listed.get((shape.book.start, whole(rows)), [])
        self.same(all_candidates(shape, rows), tuple(trees))
        return len(trees)

    def test_as_the_document_prints_it(self):
        self.same(candidates_of(ONE, ("ba",), "fold", ((1, 2),)),
                  (("fold", 1, ((1, 0),), (("fold", 0, ((0,),), ()),)),))
        self.same(len(all_candidates(ONE, ("abab",))), 7)

    def test_by_name(self):
        told = candidates_of(stretch=((1, 1),), lot="fold", rows=("ba",), shape=ONE)
        self.same(told, (("fold", 0, ((0,),), ()),))
        self.same(all_candidates(rows=("",), shape=ONE), told)

    def test_programs_of_the_document(self):
        self.same([self.compare(ONE, (row,)) for row in ("", "a", "ab", "aba", "abab", "aabbb")],
                  [1, 1, 2, 3, 7, 10])
        self.same([self.compare(EDGES, (row,)) for row in ("", "a", "b", "ab", "bb", "aba", "abbb")],
                  [0, 1, 0, 0, 1, 1, 1])
        told = [self.compare(TWO, rows) for rows in
                (("", ""), ("a", "b"), ("aab", "bab"), ("aa", "ba"), ("", "bab"), ("aab", ""))]
        self.same(told, [1, 4, 9, 8, 2, 2])

    def test_a_stretch_where_the_lot_has_no_spot(self):
        # core stands at the end of the whole alone, and is at most two signs wide.
        self.same(candidates_of(EDGES, ("abb",), "core", ((0, 1),)), (("core", 0, ((1,),), ()),))
        self.same(candidates_of(EDGES, ("bba",), "core", ((0, 2),)), (("core", 1, ((1, 1),), ()),))
        self.same(candidates_of(EDGES, ("abb",), "core", ((0, 3),)), ())
        self.same(candidates_of(EDGES, ("abb",), "whole", ((0, 1),)), (
            ("whole", 0, ((0, 1),), (("edge", 0, ((0,),), ()), ("core", 0, ((1,),), ()))),))

    def test_of_no_width(self):
        self.same(candidates_of(EDGES, ("ab",), "edge", ((1, 1),)), (("edge", 0, ((0,),), ()),))
        self.same(candidates_of(EDGES, ("ab",), "core", ((1, 1),)), ())
        self.same(candidates_of(EDGES, ("ab",), "whole", ((2, 2),)), ())
        self.same(candidates_of(TWO, ("ab", "a"), "pair", ((1, 1), (0, 0))), ())
        self.same(candidates_of(TWO, ("ab", "a"), "rest", ((1, 1), (0, 0))), (("rest", 0, ((0,), (0,)), ()),))

    def test_their_order(self):
        book = Book(read("signs a\nrows 1\nstart s\nlot s\nway f(t, t)\nway g(t)\nlot t\nway h(run 1 any)\n"
                         "way k(sign, t)\nway m(none)"))
        shape = Shape(book)
        found = all_candidates(shape, ("aaa",))
        self.same(found, tuple(sorted(found)))
        self.same(len(found), self.compare(shape, ("aaa",)))
        self.assertGreater(len(found), 10)

    def test_way_then_cut_then_parts(self):
        shape = Shape(Book(read("signs a\nrows 2\nstart s\nlot s\nway f(t, t)\nway g(run 0 any / run 0 any)\n"
                                "lot t\nway h(run 0 1 / run 0 any)\nway k(run 1 any / run 0 1)\nway m(none / sign)")))
        found = all_candidates(shape, ("aaa", "aa"))
        self.same(found, tuple(sorted(found)))
        self.same(len(found), self.compare(shape, ("aaa", "aa")))
        self.assertGreater(len(found), 10)

    def test_ways_that_are_not_live(self):
        trees = all_candidates(EDGES, ("abbb",))
        self.assertEqual({node[0] for tree in trees for _, node, _ in nodes(EDGES.book.program, tree, ((0, 4),))},
                         {"whole", "edge", "core"})

    def test_a_start_that_is_not_useful(self):
        shape = Shape(Book(read("signs ab\nrows 1\nstart s\nlot s\nway f(s)\nlot t\nway g(run 0 any)")))
        for row in ("", "a", "abab"):
            self.same(all_candidates(shape, (row,)), ())
        self.raises(BadRows(0), all_candidates, shape, ("c",))
        self.raises(BadRows(-1), all_candidates, shape, ())

    def test_what_stands_in_no_candidate_is_not_listed(self):
        # mid alone has more candidates over each stretch than could be listed.
        shape = Shape(Book(read("signs ab\nrows 1\nstart s\nlot s\nway f(mid, end)\nway g(run 0 any)\n"
                                "lot mid\nway h(sign, mid)\nway k(sign(a), mid)\nway m(none)\n"
                                "lot end\nway n(sign(b), sign(b))")))
        self.same(len(all_candidates(shape, ("a" * 60,))), 1)
        self.same(len(all_candidates(shape, ("a" * 10 + "b" * 2,))), 1 + 2 ** 10)

    def test_long_rows_and_high_candidates(self):
        shape = Shape(Book(read("signs ab\nrows 1\nstart s\nlot s\nway f(sign(a), t)\nway g(none)\n"
                                "lot t\nway h(s)\nway k(sign(b), s, s)")))
        self.same(len(all_candidates(shape, ("a" * 74,))), 1)
        tree = all_candidates(shape, ("a" * 74,))[0]
        self.same(stands(shape.book, ("a" * 74,), tree, "s", ((0, 74),)), True)

    def test_rows_that_are_none(self):
        for rows, row in (
            ((), -1), (("ab", "ab"), -1), (["ab"], -1), ("a", -1), (("abc",), 0), ((1,), 0), ((None,), 0),
            ("ab", -1), (None, -1), (("a\n",), 0), ((("a",),), 0),
        ):
            self.raises(BadRows(row), all_candidates, ONE, rows)
            self.raises(BadRows(row), candidates_of, ONE, rows, "fold", ((0, 0),))
        for rows, row in ((("ab",), -1), (("ab", "ab", "ab"), -1), (("abc", "abc"), 0), (("ab", "abc"), 1),
                          (("", 2), 1)):
            self.raises(BadRows(row), all_candidates, TWO, rows)
            self.raises(BadRows(row), candidates_of, TWO, rows, "all", ((0, 0), (0, 0)))

    def test_drawn_programs(self):
        many = []
        for draw, book in ringless(range(250)):
            many.append(self.compare(Shape(book), draw.drawn_rows()))
        self.assertGreater(len([one for one in many if one > 1]), 15)
        self.assertGreater(max(many), 20)

    def test_nodes_stand_at_spots(self):
        looked = 0
        for draw, book in ringless(range(250)):
            shape, rows = Shape(book), draw.drawn_rows()
            for tree in all_candidates(shape, rows):
                for _, node, stretch in nodes(book.program, tree, whole(rows)):
                    self.look_at_spot(shape, rows, node[0], stretch)
                    looked += 1
        self.assertGreater(looked, 500)

    def look_at_spot(self, shape, rows, lot, stretch):
        self.assertIn(lot, shape.useful)
        for row, (start, end) in enumerate(stretch):
            left_least, left_most, right_least, right_most = shape.margin(lot, row)
            least, most = shape.widths(lot, row)
            for number, low, high in ((start, left_least, left_most), (end - start, least, most),
                                      (len(rows[row]) - end, right_least, right_most)):
                self.assertTrue(low <= number and (high is None or number <= high))
        self.assertTrue(any(widths_of(stretch)) or shape.is_empty(lot))

    def test_all_stretches_of_fold(self):
        rows = ("abba",)
        for stretch in stretches_under(rows):
            for tree in candidates_of(ONE, rows, "fold", stretch):
                self.same(stands(ONE.book, rows, tree, "fold", stretch), True)
