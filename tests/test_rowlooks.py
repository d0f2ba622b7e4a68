"""[28], [12]: the look at rows."""

from chooseonce.books import Book
from chooseonce.errors import BadRows
from chooseonce.programs import read
from chooseonce.rowlooks import checked_rows
from tests.helping import FOLD, PAIR, Case

ONE, TWO = Book(read(FOLD)), Book(read(PAIR))


class Rows(Case):
    def test_as_the_document_prints_it(self):
        self.same(checked_rows(ONE, ("abab",)), (4,))
        self.raises(BadRows(0), checked_rows, ONE, ("abc",))

    def test_lengths(self):
        self.same(checked_rows(ONE, ("",)), (0,))
        self.same(checked_rows(rows=("a" * 500,), book=ONE), (500,))
        self.same(checked_rows(TWO, ("", "")), (0, 0))
        self.same(checked_rows(TWO, ("cab", "c")), (3, 1))

    def test_no_tuple(self):
        for rows in (["ab"], "a", "ab", None, 1, {"ab": 1}, ["c"]):
            self.raises(BadRows(-1), checked_rows, ONE, rows)
        for rows in (["a", "b"], "ab", None, 2, {"a": 1, "b": 2}):
            self.raises(BadRows(-1), checked_rows, TWO, rows)

    def test_too_few_and_too_many(self):
        for rows in ((), ("a", "b"), ("a", 1), ("c", "c")):
            self.raises(BadRows(-1), checked_rows, ONE, rows)
        for rows in ((), ("a",), ("a", "b", "c"), ("d",)):
            self.raises(BadRows(-1), checked_rows, TWO, rows)

    def test_the_first_that_is_no_string_of_signs(self):
        for row in ("c", "aba ", "A", "ab\n", 1, None, True, ("a",), ["a"], b"ab"):
            self.raises(BadRows(0), checked_rows, ONE, (row,))
            self.raises(BadRows(0), checked_rows, TWO, (row if row != "c" else "d", "a"))
            self.raises(BadRows(0), checked_rows, TWO, (row if row != "c" else "d", "d"))
            self.raises(BadRows(1), checked_rows, TWO, ("a", row if row != "c" else "d"))
