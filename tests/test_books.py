"""[27]: books; consequences of [29]."""

from chooseonce.askparts import judges_of
from chooseonce.books import Book
from chooseonce.errors import BadAsk, BadMaker, BadRef, BadSign, NoName, TwiceNamed
from chooseonce.formulalooks import look_asks, look_formulas
from chooseonce.kinds import kinds_of, part_places
from chooseonce.namelooks import look_names
from chooseonce.programs import read
from chooseonce.reflooks import look_makers, look_mentions, look_tests
from chooseonce.signlooks import look_signs
from tests.bookdrawing import BookDraw
from tests.helping import FOLD, PAIR, Case

# The looks in their sequence, what each tells of BROKEN, and what makes that good again.
BREACHES = (
    (look_names, TwiceNamed("one"), "ask one = first\nask one = first", "ask one = first"),
    (look_signs, BadSign("c"), "sign(c)", "sign(a)"),
    (look_mentions, NoName("no"), "way k(no)", "way k(t)"),
    (look_makers, BadMaker("g"), "way g(none)", "way g(sign)"),
    (look_tests, BadRef("h"), "when p 1 1", "when p 0 0"),
    (look_formulas, NoName("l0"), "for l0 0", "for l 0"),
    (look_asks, BadAsk("bad"), "ask bad = total j", "ask bad = least j"),
)

BROKEN = """signs ab
rows 1
pairs p ab
start s
lot s
way f(sign(c))
way g(sign)
way g(none)
way h(sign, none) when p 1 1
way k(no)
way l(none)
lot t
way f(sign)
judge j number
for f 0
for g 0
for h 0
for k 0
for l0 0
ask one = first
ask one = first
ask bad = total j
"""


class Books(Case):
    def test_as_the_document_prints_it(self):
        book = Book(read(FOLD))
        self.same(
            (book.makers(), book.parts("bond"), book.in_pairs("mate", "aa"), book.ask("how")),
            (("stop", "free", "bond"), (1, 3), False,
             ("then", ("greatest", "worth"), ("total", "ways"))),
        )

    def test_it_raises_what_the_first_look_in_their_sequence_raises(self):
        text = BROKEN
        for look, error, bad, good in BREACHES:
            self.raises(error, Book, read(text))
            text = text.replace(bad, good)
        self.same(Book(read(text)).lots(), ("s", "t"))

    def test_each_look_by_itself_tells_its_own_breach(self):
        for look, error, bad, good in BREACHES:
            self.raises(error, look, read(BROKEN))
            self.same(look(read(BROKEN.replace(bad, good))), None)

    def test_fields(self):
        for text, signs, rows, start in ((FOLD, "ab", 1, "fold"), (PAIR, "abc", 2, "both")):
            program = read(text)
            book = Book(program=program)
            self.same((book.program, book.signs, book.rows, book.start), (program, signs, rows, start))

    def test_equality(self):
        book = Book(read(FOLD))
        self.same(book == Book(read(FOLD)), True)
        self.same(book != Book(read(FOLD)), False)
        for other in (Book(read(PAIR)), Book(read(FOLD.replace("1 + x1 + x3", "x1 + 1 + x3"))),
                      Book(read(FOLD.replace("most", "much"))), read(FOLD), None, 1, "book", ()):
            self.same(book == other, False)
            self.same(other == book, False)
            self.same(book != other, True)

    def test_lots_and_ways(self):
        program = read(PAIR)
        book = Book(program)
        self.same(book.lots(), ("both", "rest"))
        self.same(book.ways("both"), program[6][0][1])
        self.same(book.ways(lot="rest"), program[6][1][1])

    def test_makers_kinds_and_parts(self):
        book = Book(read(PAIR))
        self.same(book.makers(), ("stop", "match", "turn", "left", "right", "last", "lone"))
        self.same(book.kinds("last"), (("run", "sign"), ("none", "none"), "lot"))
        self.same(book.kinds(maker="lone"), ("lot",))
        self.same((book.parts("last"), book.parts(maker="lone"), book.parts("stop")), ((2,), (0,), ()))

    def test_makers_are_unlike_as_they_first_stand(self):
        text = ("signs a\nrows 1\nstart s\nlot s\nway g(s)\nway f(sign)\nway g(t)\nlot t\n"
                "way f(sign(a))\nway h(s)\nway a(none)\nway g(s)\n")
        book = Book(read(text))
        self.same(book.makers(), ("g", "f", "h", "a"))
        self.same(len(book.ways("s")), 3)
        self.same((book.judges(), book.asks()), ((), ()))

    def test_in_pairs(self):
        book = Book(read(PAIR))
        for name, words in (("same", ("aa", "bb", "cc")), ("up", ("ab", "bc"))):
            for word in ("aa", "ab", "ac", "ba", "bb", "bc", "ca", "cb", "cc"):
                self.same(book.in_pairs(name, word), word in words)
        self.same(book.in_pairs(word="ab", name="up"), True)

    def test_number_for(self):
        book = Book(read(PAIR))
        self.same([book.number_for("gain", sign) for sign in "abc"], [2, -3, 0])
        self.same([book.number_for("cost", word) for word in ("ab", "ba", "aa")], [0, -7, 5])
        book = Book(read(PAIR.replace("a 2 b -3 c 0", "b -3")))
        self.same(book.number_for(word="a", name="gain"), -1)

    def test_judges_and_formulas(self):
        program = read(PAIR)
        book = Book(program)
        self.same(book.judges(), ("worth", "size", "ways", "told"))
        self.same(tuple(book.sort_of(judge) for judge in book.judges()),
                  ("number", "number", "product", "text"))
        self.same(book.sort_of(judge="ways"), "product")
        for judge, sort, formulas in program[7]:
            for maker, formula in formulas:
                self.same(book.formula(judge, maker), formula)
        self.same(book.formula(maker="stop", judge="told"), ())

    def test_asks(self):
        program = read(PAIR)
        book = Book(program)
        self.same(book.asks(), tuple(name for name, _ in program[8]))
        for name, ask in program[8]:
            self.same(book.ask(name), ask)
        self.same(book.ask(name="one"), ("first",))
        for name in ("no", "worth", "", "least"):
            self.raises(NoName(name), book.ask, name)

    def test_each_maker_has_a_formula_and_asks_have_unlike_judges(self):
        for seed in range(60):
            program = BookDraw(seed).program()
            book = Book(program)
            for lot in book.lots():
                for way in book.ways(lot):
                    self.same(book.kinds(way[0]), kinds_of(way))
                    self.same(book.parts(way[0]), part_places(kinds_of(way)))
            for judge, sort, formulas in program[7]:
                self.assertEqual(sorted(maker for maker, _ in formulas), sorted(book.makers()))
            for name in book.asks():
                judges = judges_of(book.ask(name))
                self.assertEqual(len(set(judges)), len(judges))
                self.assertLessEqual(set(judges), set(book.judges()))
