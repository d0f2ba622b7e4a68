"""[7], [54]: bags of values, and once; consequences of [58]."""

from chooseonce.answers import answer_to
from chooseonce.bags import bag_of, once
from chooseonce.books import Book
from chooseonce.errors import BadRows
from chooseonce.listing import all_candidates, candidates_of
from chooseonce.programs import read
from chooseonce.shapes import Shape
from chooseonce.treevalues import value
from tests.helping import FOLD, TWIN, Case
from tests.listing import stretches_under
from tests.reckoning import answer, whole_bag
from tests.shapedrawing import ringless

ONE, TWO = Shape(Book(read(FOLD))), Shape(Book(read(TWIN)))


class Bags(Case):
    def compare(self, shape, ask, rows):
        bag = whole_bag(shape.book.program, ask, rows)
        self.same(once(shape, ask, rows), answer(ask, bag))
        if shape.useful:
            whole = tuple((0, len(row)) for row in rows)
            self.same(bag_of(shape, ask, rows, shape.book.start, whole), bag)

    def test_as_the_document_prints_it(self):
        self.same(bag_of(ONE, ("greatest", "worth"), ("abab",), "fold", ((0, 4),)), (0, 1, 1, 1, 2, 1, 2))
        self.same(once(ONE, ("each", "worth", ("names", "dots")), ("aba",)),
                  ((0, ("...",)), (1, ("().", ".()"))))

    def test_by_name(self):
        told = bag_of(stretch=((0, 1),), lot="fold", rows=("ab",), ask=("names", "dots"), shape=ONE)
        self.same(told, (".",))
        self.same(once(rows=("ab",), ask=("spread", "worth"), shape=ONE), ((0, 1), (1, 1)))

    def test_in_the_sequence_of_the_candidates(self):
        for shape, rows in ((ONE, ("abab",)), (TWO, ("aab", "bab"))):
            book = shape.book
            for lot in shape.useful:
                for stretch in stretches_under(rows):
                    trees = candidates_of(shape, rows, lot, stretch)
                    self.same(bag_of(shape, ("first",), rows, lot, stretch), trees)
                    for name in book.asks():
                        self.same(bag_of(shape, book.ask(name), rows, lot, stretch),
                                  tuple(value(book, book.ask(name), rows, tree, stretch) for tree in trees))

    def test_asks_of_the_programs(self):
        for shape, many in ((ONE, (("",), ("a",), ("abba",))), (TWO, (("", ""), ("a", "b"), ("aab", "bab")))):
            for rows in many:
                for name in shape.book.asks():
                    self.compare(shape, shape.book.ask(name), rows)

    def test_no_candidates(self):
        shape = Shape(Book(read(FOLD.replace("stop(none)", "stop(sign)"))))
        for ask in (("greatest", "worth"), ("total", "ways"), ("each", "worth", ("names", "dots")), ("first",)):
            self.same(once(shape, ask, ("",)), None)
            self.same(bag_of(shape, ask, ("",), "fold", ((0, 0),)), ())

    def test_a_start_that_is_not_useful(self):
        shape = Shape(Book(read(FOLD.replace("stop(none)", "stop(fold)"))))
        self.same(once(shape, ("first",), ("ab",)), None)
        self.raises(BadRows(0), once, shape, ("first",), ("c",))
        self.raises(BadRows(-1), once, shape, ("first",), ["a"])

    def test_rows_that_are_none(self):
        for rows, row in (((), -1), (["ab"], -1), ("ab", -1), (("abc",), 0), ((3,), 0), (("ab", "a"), -1)):
            self.raises(BadRows(row), once, ONE, ("first",), rows)
            self.raises(BadRows(row), bag_of, ONE, ("first",), rows, "fold", ((0, 0),))
        for rows, row in ((("ab",), -1), (("ab", "c"), 1), (("c", "c"), 0)):
            self.raises(BadRows(row), once, TWO, ("first",), rows)
            self.raises(BadRows(row), bag_of, TWO, ("first",), rows, "all", ((0, 0), (0, 0)))

    def test_drawn_programs(self):
        for draw, book in ringless(range(120)):
            rows = draw.drawn_rows()
            shape = Shape(book)
            for name in book.asks():
                self.compare(shape, book.ask(name), rows)

    def test_values_of_high_candidates(self):
        self.same(once(ONE, ("beside", ("greatest", "worth"), ("names", "dots")), ("a" * 80,)), (0, ("." * 80,)))

    def test_the_answer_to_the_bag(self):
        for ask in (("best", 3, "worth"), ("then", ("greatest", "worth"), ("names", "dots"))):
            bag = bag_of(ONE, ask, ("abab",), "fold", ((0, 4),))
            self.same(once(ONE, ask, ("abab",)), answer_to(ask, bag))


class Consequences(Case):
    def test_candidates_rise(self):
        for rows in (("ababab",), ("aabba",)):
            trees = all_candidates(ONE, rows)
            self.assertTrue(all(one < other for one, other in zip(trees, trees[1:])))

    def test_what_is_not_live_or_not_useful_changes_nothing(self):
        looked = 0
        for draw, book in ringless(range(150)):
            rows, program = draw.drawn_rows(), book.program
            plain = ("plain", (("sign", ""),) * book.rows)
            dead = (("dead", (plain, ("lot", "s"), ("lot", "lost")), ()),)
            lots = tuple((lot, ways + dead) for lot, ways in program[6])
            lots += (("lost", (("loop", (("lot", "lost"),), ()),)),
                     ("spare", (("round", (("lot", "spare"),), ()), ("ends", (plain,), ()))))
            judges = tuple((name, sort, formulas + tuple((maker, self.formula(sort)) for maker in
                                                         ("dead", "loop", "round", "ends")))
                           for name, sort, formulas in program[7])
            one = Shape(book)
            other = Shape(Book(program[:6] + (lots, judges) + program[8:]))
            self.same(all_candidates(other, rows), all_candidates(one, rows))
            looked += len(all_candidates(one, rows))
            for name in book.asks():
                self.same(once(other, book.ask(name), rows), once(one, book.ask(name), rows))
        self.assertGreater(looked, 60)

    def formula(self, sort):
        return {"number": ("one", (((7, ("one",)),),)), "product": ((7, (), ()),), "text": ()}[sort]
