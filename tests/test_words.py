"""[13], [3]: the words of a line, and names."""

from chooseonce.errors import BadText
from chooseonce.words import is_name, words_in
from tests.helping import Case

RESERVED = (
    "signs rows pairs numbers else start lot way when and judge number product text for ask sign"
    " none run any min max len at least greatest best ends within spread total names first then"
    " each beside against"
).split()


class Words(Case):
    def test_all_kinds_with_their_places(self):
        self.same(words_in(0, 'way f1(x0, 12) "a b"'), (
            ("word", "way", 0), ("word", "f1", 4), ("mark", "(", 6), ("word", "x0", 7),
            ("mark", ",", 9), ("number", 12, 11), ("mark", ")", 13), ("quote", "a b", 15),
            ("end", None, 20),
        ))

    def test_all_marks(self):
        marks = "()[],/=*+-."
        wanted = [("mark", mark, at) for at, mark in enumerate(marks)]
        self.same(words_in(0, marks), (*wanted, ("end", None, len(marks))))

    def test_blanks_part_words_and_say_nothing_else(self):
        self.same(words_in(0, ""), (("end", None, 0),))
        self.same(words_in(0, "   "), (("end", None, 3),))
        self.same(words_in(0, "  a  b "), (("word", "a", 2), ("word", "b", 5), ("end", None, 7)))

    def test_words_of_sixteen_and_seventeen_letters(self):
        self.same(words_in(0, "a" * 16), (("word", "a" * 16, 0), ("end", None, 16)))
        self.same(words_in(0, "a9" * 8), (("word", "a9" * 8, 0), ("end", None, 16)))
        self.raises(BadText(3, 1), words_in, 3, " " + "a" * 17)
        self.raises(BadText(3, 2), words_in, 3, "- " + "a" * 16 + "0")

    def test_all_letters_and_figures(self):
        for word in ("abcdefghijklmnop", "nopqrstuvwxyz", "a0123456789"):
            self.same(words_in(0, word)[0], ("word", word, 0))

    def test_numbers_of_forty_and_forty_one_figures(self):
        self.same(words_in(0, "9" * 40)[0], ("number", int("9" * 40), 0))
        self.raises(BadText(0, 0), words_in, 0, "9" * 41)
        self.raises(BadText(0, 2), words_in, 0, "1 " + "1" * 5000)

    def test_numbers_with_a_nought_in_front(self):
        self.same(words_in(0, "0 10")[:2], (("number", 0, 0), ("number", 10, 2)))
        self.raises(BadText(0, 2), words_in, 0, "0 01")
        self.raises(BadText(0, 0), words_in, 0, "00")

    def test_numbers_run_into_letters(self):
        self.raises(BadText(0, 1), words_in, 0, "(1a")
        self.raises(BadText(0, 0), words_in, 0, "123abc")
        for letter in "abcdefghijklmnopqrstuvwxyz":
            self.raises(BadText(0, 1), words_in, 0, " 12" + letter + "3")
        self.same(words_in(0, "0.1")[:3], (("number", 0, 0), ("mark", ".", 1), ("number", 1, 2)))

    def test_quotes_of_eight_and_nine_characters(self):
        self.same(words_in(0, '"12345678"'), (("quote", "12345678", 0), ("end", None, 10)))
        self.raises(BadText(0, 1), words_in, 0, ' "123456789"')

    def test_quotes_hold_any_characters(self):
        self.same(words_in(0, '"" "A ~("x')[:3], (
            ("quote", "", 0), ("quote", "A ~(", 3), ("word", "x", 9),
        ))

    def test_quotes_not_closed(self):
        self.raises(BadText(0, 2), words_in, 0, 'a "')
        self.raises(BadText(0, 2), words_in, 0, 'a "b')
        self.raises(BadText(0, 0), words_in, 0, '"abcdefghijkl')
        self.raises(BadText(0, 4), words_in, 0, '"ab""')

    def test_other_characters(self):
        for character in "A_:;<>!?#&'@\\^`{|}~$Z\t\n":
            self.raises(BadText(7, 2), words_in, 7, "a " + character)
            self.raises(BadText(7, 1), words_in, 7, "a" + character)

    def test_the_leftmost_is_told(self):
        self.raises(BadText(0, 0), words_in, 0, '01 A "')
        self.raises(BadText(0, 2), words_in, 0, 'a A 01 "')

    def test_line_is_for_the_error_alone(self):
        self.same(words_in(5, "a"), words_in(0, "a"))

    def test_by_name(self):
        self.same(words_in(text="a", line=2), words_in(2, "a"))


class Names(Case):
    def test_names(self):
        for word in ("a", "z9", "fold", "a" * 16, "x", "x12", "xa", "y1", "x0a", "one", "part",
                     "from", "signsx", "word", "ways", "a0123456789"):
            self.same(is_name(word), True)

    def test_no_names(self):
        for word in ("", "a" * 17, "9", "9a", "A", "aB", "a b", " a", "a ", "a-b", "a.", "(",
                     "a_b", "a\n"):
            self.same(is_name(word), False)

    def test_reserved_words_are_no_names(self):
        self.assertEqual(len(RESERVED), 37)
        for word in RESERVED:
            self.same(is_name(word), False)
            self.same(is_name(word + "0"), True)

    def test_x_and_one_figure_is_no_name(self):
        for figure in "0123456789":
            self.same(is_name("x" + figure), False)
