"""[8], [60]: collected product formulas, and dresses."""

from itertools import product

from chooseonce.books import Book
from chooseonce.collecting import collected, dresses_of
from chooseonce.formreading import read_formula
from chooseonce.programs import read
from tests.bookdrawing import BookDraw
from tests.helping import BEND, Case

NUMS = Book(read("""signs abc
rows 2
numbers one 1 else 0 a 2 b -2
numbers two 2 else 1 ab 3 ba 0 aa -1
start s
lot s
way f(sign / none, s, run 0 any / sign, s)
"""))
KINDS = NUMS.kinds("f")


class Collected(Case):
    def told(self, text, signs, wanted):
        dress = ((signs[0], ""), None, ("", signs[1]), None)
        self.same(collected(NUMS, KINDS, read_formula("product", 2, text), dress), wanted)

    def test_as_the_document_prints_it(self):
        book = Book(read(BEND))
        kinds, grown = book.kinds("f"), book.formula("p", "f")
        self.same((collected(book, kinds, grown, (("a",), None)), collected(book, kinds, grown, (("b",), None))),
                  ((((), 1), ((1,), 2)), (((), 1),)))

    def test_nums_are_worked_out(self):
        self.told("one[0.0] * x1", "ab", (((1,), 2),))
        self.told("5 * one[0.0] * one[2.1] * x1", "ab", (((1,), -20),))
        self.told("two[0.0, 2.1] * x1 * x3", "ab", (((1, 3), 3),))
        self.told("two[2.1, 0.0] * x1 + two[0.0, 0.0]", "ac", (((), -1), ((1,), 1)))

    def test_products_with_the_same_parts_are_added(self):
        self.told("x1 + x1 - 4 * x1", "aa", (((1,), -2),))
        self.told("x1 * x3 + 2 * x3 * x1 + 7 + x3", "aa", (((), 7), ((1, 3), 3), ((3,), 1)))
        self.told("x1 * x1 + x1", "aa", (((1,), 1), ((1, 1), 1)))

    def test_those_with_nought_are_left_out(self):
        self.told("x1 - x1", "aa", ())
        self.told("0 * x1 + 0", "aa", ())
        self.told("one[0.0] * x1 + one[2.1] * x1", "ab", ())
        self.told("one[0.0] * x1 + one[2.1] * x1", "aa", (((1,), 4),))
        self.told("one[0.0] * x1 + x3", "ca", (((3,), 1),))

    def test_by_name(self):
        told = collected(dress=(("a", ""), None, ("", "a"), None), formula=((3, (), (1,)),), kinds=KINDS, book=NUMS)
        self.same(told, (((1,), 3),))

    def test_drawn_formulas(self):
        for seed in range(150):
            book = Book(BookDraw(seed).program())
            numbers = {name: (other, dict(entries)) for name, _, other, entries in book.program[4]}
            for maker in book.makers():
                kinds, formula = book.kinds(maker), book.formula("o", maker)
                refs = [(at, row) for at, kind in enumerate(kinds) if kind != "lot"
                        for row, word in enumerate(kind) if word == "sign"]
                for dress in dresses_of(book, kinds, tuple(refs[:2])):
                    sums = {}
                    for k, nums, parts in formula:
                        for name, named in nums:
                            word = "".join(dress[at][row] for at, row in named)
                            k *= numbers[name][1].get(word, numbers[name][0])
                        sums[parts] = sums.get(parts, 0) + k
                    self.same(collected(book, kinds, formula, dress),
                              tuple(sorted((parts, k) for parts, k in sums.items() if k)))


class Dresses(Case):
    def test_as_the_document_prints_it(self):
        book = Book(read(BEND))
        self.same(dresses_of(book, book.kinds("f"), ((0, 0),)), ((("a",), None), (("b",), None)))

    def test_without_refs(self):
        self.same(dresses_of(NUMS, KINDS, ()), ((("a", ""), None, ("", "a"), None),))
        self.same(dresses_of(NUMS, ("lot", ("none", "run")), ()), ((None, ("", "")),))
        self.same(dresses_of(NUMS, ("lot",), ()), ((None,),))

    def test_one_ref(self):
        for sign, dress in zip("abc", dresses_of(NUMS, KINDS, ((2, 1),)), strict=True):
            self.same(dress, (("a", ""), None, ("", sign), None))

    def test_several_in_any_sequence(self):
        kinds = (("sign", "sign"), "lot", ("none", "sign"), ("sign", "run"))
        refs = ((0, 1), (2, 1), (3, 0))
        wanted = tuple((("a", one), None, ("", two), (three, "")) for one, two, three in product("abc", repeat=3))
        for sequence in (refs, refs[::-1], (refs[1], refs[2], refs[0])):
            self.same(dresses_of(NUMS, kinds, sequence), wanted)
        self.same(len(dresses_of(NUMS, kinds, ((0, 0),) + refs)), 81)

    def test_signs_in_the_programs_sequence(self):
        book = Book(read("signs cab\nrows 1\nstart s\nlot s\nway f(sign, sign)"))
        told = dresses_of(refs=((1, 0), (0, 0)), kinds=book.kinds("f"), book=book)
        self.same(told, tuple(((one,), (two,)) for one, two in product("cab", repeat=2)))
        self.same(dresses_of(book, book.kinds("f"), ((1, 0),)), ((("c",), ("c",)), (("c",), ("a",)), (("c",), ("b",))))
