"""[41]: samples of made lots, and of useful ones in the start lot; (G2)."""

from chooseonce.books import Book
from chooseonce.errors import NoName
from chooseonce.making import made_lots, useful_lots
from chooseonce.programs import read
from chooseonce.samples import sample, used_sample
from chooseonce.standing import wrong_at
from chooseonce.stretches import whole_of
from chooseonce.trees import height_of, node_at, nodes_of
from tests.helping import CIRCLE, EDGE, FOLD, TWIN, Case
from tests.shapedrawing import drawn_books


class Samples(Case):
    def whole(self, rows):
        return whole_of([len(row) for row in rows])

    def look(self, book):
        """Looks at the samples of all lots that have some, and that the others have none."""
        for lot in book.lots():
            if lot in made_lots(book):
                rows, tree = sample(book, lot)
                self.same(wrong_at(book, rows, tree, lot, self.whole(rows)), None)
                self.assertLessEqual(height_of(tree), 150)
            else:
                self.raises(NoName(lot), sample, book, lot)
            if lot in useful_lots(book):
                self.look_used(book, lot)
            else:
                self.raises(NoName(lot), used_sample, book, lot)

    def look_used(self, book, lot):
        rows, tree, path = used_sample(book, lot)
        self.same(wrong_at(book, rows, tree, book.start, self.whole(rows)), None)
        self.assertEqual({told[0]: told[1] for told in nodes_of(book, tree, self.whole(rows))}[path], lot)
        self.same(node_at(tree, path)[0], lot)
        self.assertLessEqual(height_of(tree), 150)

    def test_as_the_document_prints_it(self):
        book = Book(read(EDGE))
        self.raises(NoName("lost"), sample, book, "lost")
        self.raises(NoName("spare"), used_sample, book, "spare")

    def test_programs_of_the_document(self):
        for text in (EDGE, FOLD, TWIN, CIRCLE):
            self.look(Book(read(text)))

    def test_names_that_are_no_lots(self):
        book = Book(read(EDGE))
        for name in ("", "no", "one", "same", "wholes", "Whole"):
            self.raises(NoName(name), sample, book, name)
            self.raises(NoName(name), used_sample, lot=name, book=book)

    def test_a_made_lot_that_is_not_useful_has_a_sample(self):
        book = Book(read(EDGE))
        rows, tree = sample(lot="spare", book=book)
        self.same(tree, ("spare", 0, ((1,),), ()))
        self.assertIn(rows, (("a",), ("b",)))

    def test_the_only_ones(self):
        book = Book(read("signs ab\nrows 2\npairs up ab\nstart s\nlot s\n"
                         "way f(sign / sign, t, run 2 2 / none, t) when up 0.1 0.0\n"
                         "lot t\nway g(none / sign(a), run 0 0 / sign(b))"))
        self.same(sample(book, "t"), (("", "ab"), ("t", 0, ((0, 0), (1, 1)), ())))
        part = ("t", 0, ((0, 0), (1, 1)), ())
        tree = ("s", 0, ((1, 0, 2, 0), (1, 2, 0, 2)), (part, part))
        rows, told = sample(book, "s")
        self.same(told, tree)
        self.assertIn(rows, [("b" + run, "aabab") for run in ("aa", "ab", "ba", "bb")])
        rows, told, path = used_sample(book, "t")
        self.same(told, tree)
        self.assertIn(path, ((0,), (1,)))
        self.same(used_sample(book, "s")[1:], (tree, ()))

    def test_a_start_that_is_not_made(self):
        book = Book(read("signs a\nrows 1\nstart s\nlot s\nway f(s)\nlot t\nway g(sign)"))
        self.raises(NoName("s"), sample, book, "s")
        self.raises(NoName("s"), used_sample, book, "s")
        self.raises(NoName("t"), used_sample, book, "t")
        self.same(sample(book, "t"), (("a",), ("t", 0, ((1,),), ())))

    def test_deep_lots_and_many_parts(self):
        lots = "".join(f"lot l{at}\nway f(l{at + 1}, l{at + 1}, l{at + 1})\n" for at in range(7))
        book = Book(read("signs a\nrows 1\nstart l0\n" + lots + "lot l7\nway g(run 80 80)\nway h(l0)"))
        rows, tree = sample(book, "l0")
        self.same(len(rows[0]), 80 * 3 ** 7)
        self.same(height_of(tree), 8)
        rows, tree, path = used_sample(book, "l7")
        self.same((len(rows[0]), len(path)), (80 * 3 ** 7, 7))
        self.same(node_at(tree, path), ("l7", 0, ((80,),), ()))

    def test_drawn_programs(self):
        for _, book in drawn_books(range(200)):
            self.look(book)
