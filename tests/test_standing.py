"""[5], [36]: whether trees are candidates; consequences of [38]."""

from chooseonce.books import Book
from chooseonce.programs import read
from chooseonce.standing import stands, wrong_at
from tests.bookdrawing import BookDraw
from tests.helping import FOLD, PAIR, Case
from tests.listing import candidates, stretches_under

ONE, TWO = Book(read(FOLD)), Book(read(PAIR))
STOP = ("fold", 0, ((0,),), ())
FREE = ("fold", 1, ((1, 0),), (STOP,))
TREE = ("fold", 2, ((1, 0, 1, 1),), (STOP, FREE))

MARKS = Book(read("""signs abc
rows 1
pairs up ab bc
pairs same aa bb cc
start s
lot s
way f(sign(ab), sign, run 1 2, none) when up 0 1 and same 0 0
way g(run 2 any)
way h(s, t)
way w(s)
lot t
way k(sign(c))
way k(sign(a))
"""))


class Wrong(Case):
    def told(self, book, row, tree, wanted, lot=None, stretch=None):
        lot = book.start if lot is None else lot
        stretch = ((0, len(row)),) if stretch is None else stretch
        self.same(wrong_at(book, (row,), tree, lot, stretch), wanted)
        self.same(stands(book, (row,), tree, lot, stretch), wanted is None)
        if book is MARKS and lot == "s":
            # The same beneath another root.
            above = ("s", 3, ((len(row),),), (tree,))
            beneath = None if wanted is None else ((0, *wanted[0]), wanted[1])
            self.same(wrong_at(book, (row,), above, lot, stretch), beneath)

    def test_as_the_document_prints_it(self):
        self.same(wrong_at(ONE, ("aaab",), TREE, "fold", ((1, 4),)), ((), "test"))
        tree = ("fold", 2, ((1, 0, 1, 1),), (STOP, STOP))
        self.same(wrong_at(ONE, ("abab",), tree, "fold", ((1, 4),)), ((1,), "cut"))

    def test_candidates(self):
        self.told(ONE, "aabb", TREE, None, stretch=((1, 4),))
        self.told(ONE, "", STOP, None)
        self.told(MARKS, "abac", ("s", 0, ((1, 1, 2, 0),), ()), None)
        self.told(MARKS, "bca", ("s", 0, ((1, 1, 1, 0),), ()), None)
        self.told(MARKS, "c", ("t", 0, ((1,),), ()), None, lot="t")
        self.same(wrong_at(stretch=((0, 0),), lot="fold", candidate=STOP, rows=("",), book=ONE), None)
        self.same(stands(stretch=((0, 0),), lot="fold", candidate=STOP, rows=("",), book=ONE), True)

    def test_lot(self):
        for lot in ("t", "", "folds", None, True, False, 0, ("fold",), ("s", 0), -1):
            self.told(ONE, "", (lot, 0, ((0,),), ()), ((), "lot"))
        self.told(MARKS, "c", ("t", 0, ((1,),), ()), ((), "lot"))
        self.told(MARKS, "aa", ("s", 1, ((2,),), ()), ((), "lot"), lot="t")
        tree = ("s", 2, ((2, 1),), (("s", 1, ((2,),), ()), ("s", 0, ((1,),), ())))
        self.told(MARKS, "aac", tree, ((1,), "lot"))

    def test_way(self):
        for way in (3, -1, -3, 100, True, False, None, "0", "stop", (0,), (), 10 ** 50):
            self.told(ONE, "", ("fold", way, ((0,),), ()), ((), "way"))
            if way != 3:
                self.told(MARKS, "", ("s", way, ((0,),), ()), ((), "way"))
        self.told(MARKS, "c", ("t", 2, ((1,),), ()), ((), "way"), lot="t")

    def test_cut(self):
        for cut in (
            (), None, 0, "00", ((1, 0), (0, 0)), ((1,),), ((1, 0, 0),), ((0, 0),), ((1, 1),),
            ((2, -1),), ((-1, 2),), ((True, 0),), ((1, False),), (("1", 0),), ((1, None),), (1, 0),
            (None,), ("10",), ((),), (((1, 0),),), ((1, (0,)),), True,
        ):
            self.told(ONE, "a", ("fold", 1, cut, (STOP,)), ((), "cut"))
            self.told(MARKS, "a", ("s", 2, cut, ()), ((), "cut"))

    def test_cut_on_two_rows(self):
        stop = ("both", 0, ((0,), (0,)), ())
        for cut, why in (
            (((1, 0), (1, 0)), None), (((1, 0),), "cut"), (((1, 0), (1, 0), (1, 0)), "cut"),
            (((1, 0), (0, 0)), "cut"), (((0, 0), (1, 0)), "cut"), (((1, 0), (1,)), "cut"),
            (((1,), (1, 0)), "cut"), (((1, 0), None), "cut"), (((1, 0), (1, 0, 0)), "cut"),
            (((0, 1), (1, 0)), "width"), (((1, 0), (0, 1)), "width"),
        ):
            wanted = None if why is None else ((), why)
            tree = ("both", 1, cut, (stop,))
            self.same(wrong_at(TWO, ("ab", "cbc"), tree, "both", ((0, 1), (1, 2))), wanted)

    def test_width_of_signs_and_none(self):
        for widths in ((0, 2, 1, 0), (2, 0, 1, 0), (1, 0, 2, 0), (1, 2, 0, 0), (1, 1, 0, 1),
                       (0, 1, 2, 0), (0, 0, 3, 0), (0, 0, 0, 3)):
            self.told(MARKS, "aba", ("s", 0, (widths,), ()), ((), "width"))
        self.told(ONE, "a", ("fold", 0, ((1,),), ()), ((), "width"))

    def test_width_of_runs(self):
        for width in range(6):
            told = None if width in (1, 2) else ((), "width")
            self.told(MARKS, "ab" + "a" * width, ("s", 0, ((1, 1, width, 0),), ()), told)
            told = None if width >= 2 else ((), "width")
            self.told(MARKS, "a" * width, ("s", 1, ((width,),), ()), told)

    def test_sign(self):
        self.told(MARKS, "cba", ("s", 0, ((1, 1, 1, 0),), ()), ((), "sign"))
        self.told(MARKS, "a", ("t", 0, ((1,),), ()), ((), "sign"), lot="t")
        self.told(MARKS, "c", ("t", 1, ((1,),), ()), ((), "sign"), lot="t")
        for sign in "abc":
            tree = ("both", 2, ((1, 0), (1, 0)), (("both", 0, ((0,), (0,)), ()),))
            for lower in "abc":
                wanted = None if sign in "ab" and lower == "c" else ((), "sign")
                self.same(wrong_at(TWO, (sign, lower), tree, "both", ((0, 1), (0, 1))), wanted)

    def test_test(self):
        for one in "ab":
            for other in "abc":
                wanted = None if one + other in ("ab", "bc") else ((), "test")
                self.told(MARKS, one + other + "c", ("s", 0, ((1, 1, 1, 0),), ()), wanted)

    def test_parts(self):
        for parts in ((), (FREE,), (STOP, FREE, STOP), (FREE, STOP, STOP, STOP)):
            self.told(ONE, "aabb", ("fold", 2, ((1, 0, 1, 1),), parts), ((), "parts"),
                      stretch=((1, 4),))
        self.told(ONE, "", ("fold", 0, ((0,),), (STOP,)), ((), "parts"))

    def test_parts_beneath(self):
        leaf = ("s", 1, ((2,),), ())
        for parts in ((), (leaf,), (leaf, leaf, leaf)):
            self.told(MARKS, "aac", ("s", 2, ((2, 1),), parts), ((), "parts"))
        self.told(MARKS, "aa", ("s", 1, ((2,),), (leaf,)), ((), "parts"))

    def test_the_first_in_their_sequence_is_told(self):
        for tree, why in (
            (("t", 9, None, (None,)), "lot"), (("s", 9, None, (None,)), "way"),
            (("s", 0, ((1, 1, 0, 9),), (None,)), "cut"), (("s", 0, ((2, 1, 0, 1),), (None,)), "width"),
            (("s", 0, ((0, 1, 3, 0),), (None,)), "width"), (("s", 0, ((1, 1, 2, 0),), (None,)), "sign"),
        ):
            self.told(MARKS, "ccca", tree, ((), why))
        self.told(MARKS, "aaca", ("s", 0, ((1, 1, 2, 0),), (None,)), ((), "test"))
        self.told(MARKS, "abca", ("s", 0, ((1, 1, 2, 0),), (None,)), ((), "parts"))

    def test_letters_of_all_pieces_ahead_of_tests(self):
        book = Book(read("signs ab\nrows 1\npairs p ab\nstart s\nlot s\n"
                         "way f(sign, sign, sign(a)) when p 0 1\n"))
        self.same(wrong_at(book, ("aab",), ("s", 0, ((1, 1, 1),), ()), "s", ((0, 3),)), ((), "sign"))
        self.same(wrong_at(book, ("aaa",), ("s", 0, ((1, 1, 1),), ()), "s", ((0, 3),)), ((), "test"))

    def test_part_by_part_each_with_all_beneath_it(self):
        bad = ("fold", 7, ((0,),), ())
        deep = ("fold", 1, ((1, 0),), (bad,))
        for parts, path in (
            ((bad, bad), (0,)), ((STOP, bad), (1,)), ((bad, deep), (0,)), ((STOP, deep), (1, 0)),
        ):
            self.told(ONE, "aabb", ("fold", 2, ((1, 0, 1, 1),), parts), (path, "way"),
                      stretch=((1, 4),))
        tree = ("fold", 2, ((1, 1, 1, 0),), (deep, bad))
        self.told(ONE, "aab", tree, ((0, 0), "way"))
        tree = ("fold", 2, ((1, 1, 1, 0),), (("fold", 1, ((1, 0),), (STOP,)), bad))
        self.told(ONE, "aab", tree, ((1,), "way"))
        tree = ("fold", 3, ((1, 1, 1, 0),), (deep, bad))
        self.told(ONE, "aab", tree, ((), "way"))

    def test_paths_count_the_parts_alone(self):
        tree = ("s", 2, ((2, 1),), (("s", 1, ((2,),), ()), ("t", 1, ((1,),), ())))
        self.told(MARKS, "aac", tree, ((1,), "sign"))
        tree = ("fold", 1, ((1, 1),), (("fold", 2, ((1, 0, 0, 0),), (STOP, STOP)),))
        self.told(ONE, "ab", tree, ((0,), "width"))

    def test_high_trees(self):
        for last, why in ((STOP, None), (("fold", 0, ((0,),), (STOP,)), "parts")):
            tree = last
            for width in range(1, 200):
                tree = ("fold", 1, ((1, width - 1),), (tree,))
            wanted = None if why is None else ((0,) * 199, why)
            self.told(ONE, "a" * 199, tree, wanted)


class Standing(Case):
    def test_just_the_candidates_stand(self):
        """Trees of all stretches and lots, asked at each of them."""
        for seed in range(40):
            draw = BookDraw(seed)
            book = Book(draw.program())
            rows = tuple("".join(draw.one(draw.signs) for _ in range(2)) for _ in range(draw.rows))
            places = [(lot, stretch) for lot in book.lots() for stretch in stretches_under(rows)]
            listed = {place: candidates(book.program, rows, *place, 2) for place in places}
            known = {place: set(listed[place]) for place in places}
            for place in draw.random.sample(places, min(12, len(places))):
                for tree in listed[place][:3] + listed[place][-3:]:
                    for lot, stretch in places:
                        self.same(stands(book, rows, tree, lot, stretch),
                                  tree in known[(lot, stretch)])

    def test_it_hangs_on_the_texts_under_the_stretch_alone(self):
        self.same(wrong_at(ONE, ("bababab",), TREE, "fold", ((1, 4),)), None)
        self.same(wrong_at(ONE, ("abb",), TREE, "fold", ((0, 3),)), None)
        self.same(wrong_at(ONE, ("bbaab",), TREE, "fold", ((2, 5),)), ((), "test"))
