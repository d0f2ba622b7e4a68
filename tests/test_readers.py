"""[19]: a reader of one line."""

from chooseonce.errors import BadText
from chooseonce.readers import LineReader
from chooseonce.words import words_in
from tests.helping import Case


class Reader(Case):
    def refused(self, text, place, method, *args):
        """The method raises at this place and takes nothing."""
        reader = LineReader(4, text)
        self.raises(BadText(4, place), getattr(reader, method), *args)
        self.same(reader.at, 0)

    def taken(self, text, value, at, method, *args):
        """The method returns the value and goes on to the place among the words."""
        reader = LineReader(4, text)
        self.same(getattr(reader, method)(*args), value)
        self.same(reader.at, at)

    def test_fields(self):
        reader = LineReader(3, " a (")
        self.same((reader.line, reader.text, reader.at), (3, " a (", 0))
        self.same(reader.words, words_in(3, " a ("))

    def test_the_line_is_cut_at_once(self):
        self.raises(BadText(3, 4), LineReader, 3, "a b A")
        self.raises(BadText(3, 4), LineReader, text="a b A", line=3)

    def test_look_takes_nothing(self):
        reader = LineReader(0, 'a 7 "b" )')
        for pair in (("word", "a"), ("number", 7), ("quote", "b"), ("mark", ")"), ("end", None)):
            self.same(reader.look(), pair)
            self.same(reader.look(), pair)
            reader.take()

    def test_take(self):
        reader = LineReader(0, 'a 7 "b" )')
        self.same([reader.take() for _ in range(4)], ["a", 7, "b", ")"])
        self.same(reader.at, 4)

    def test_take_stays_at_the_end(self):
        reader = LineReader(0, "")
        self.same((reader.take(), reader.take(), reader.at), (None, None, 0))

    def test_expect(self):
        self.taken("lot a", "lot", 1, "expect", "lot")
        self.taken(") a", ")", 1, "expect", ")")
        self.refused("lot a", 0, "expect", "way")
        self.refused("lots", 0, "expect", "lot")
        self.refused("  (", 2, "expect", ")")
        self.refused('  "lot"', 2, "expect", "lot")
        self.refused('")"', 0, "expect", ")")
        self.refused("7", 0, "expect", 7)
        self.refused("7", 0, "expect", "7")
        self.refused(" ", 1, "expect", "lot")
        self.refused(" ", 1, "expect", None)

    def test_done(self):
        self.taken("  ", None, 0, "done")
        self.refused(" a", 1, "done")
        self.refused("0", 0, "done")
        self.refused('""', 0, "done")

    def test_bad(self):
        reader = LineReader(9, "a  b ")
        self.raises(BadText(9, 0), reader.bad)
        reader.take()
        self.raises(BadText(9, 3), reader.bad)
        reader.take()
        self.raises(BadText(9, 5), reader.bad)
        self.same(reader.at, 2)

    def test_take_name(self):
        self.taken("fold x", "fold", 1, "take_name")
        self.taken("x10", "x10", 1, "take_name")
        for text in ("lot", "x1", "7", "(", '"fold"', ""):
            self.refused(text, 0, "take_name")

    def test_take_number(self):
        self.taken("0 1", 0, 1, "take_number")
        self.taken("12", 12, 1, "take_number")
        for text in ("a", "- 1", '"1"', "", "-1"):
            self.refused(text, 0, "take_number")

    def test_take_integer(self):
        self.taken("7 8", 7, 1, "take_integer")
        self.taken("-7 8", -7, 2, "take_integer")
        self.taken("-  7", -7, 2, "take_integer")
        self.taken("-0", 0, 2, "take_integer")
        for text in ("a", "+ 1", '"1"', ""):
            self.refused(text, 0, "take_integer")

    def test_take_integer_raises_behind_a_minus(self):
        self.refused("- a", 2, "take_integer")
        self.refused("--1", 1, "take_integer")
        self.refused('-"1"', 1, "take_integer")
        self.refused("-", 1, "take_integer")
        self.refused("-  ", 3, "take_integer")

    def test_take_letters(self):
        self.taken("ab", "ab", 1, "take_letters")
        self.taken("abcdefghijklmnop c", "abcdefghijklmnop", 1, "take_letters")
        self.taken("any", "any", 1, "take_letters")
        for text in ("aba", "aa", "a1", "x1", "7", "(", '"ab"', ""):
            self.refused(text, 0, "take_letters")

    def test_take_word(self):
        self.taken("ab", "ab", 1, "take_word", 2)
        self.taken("aa", "aa", 1, "take_word", 2)
        self.taken("at", "at", 1, "take_word", 2)
        self.taken("a b", "a", 1, "take_word", 1)
        self.taken("abc", "abc", 1, "take_word", 3)
        for text in ("a", "abc", "a1", "x1", "10", "(", '"ab"', ""):
            self.refused(text, 0, "take_word", 2)

    def test_they_go_on_behind_one_another(self):
        reader = LineReader(0, "for free -3 ab")
        self.same(reader.expect(value="for"), "for")
        self.same(reader.take_name(), "free")
        self.raises(BadText(0, 9), reader.take_number)
        self.same(reader.take_integer(), -3)
        self.raises(BadText(0, 12), reader.done)
        self.same(reader.take_word(width=2), "ab")
        self.same(reader.done(), None)
