"""[24]: the look at characters that are no signs."""

from chooseonce.errors import BadSign
from chooseonce.programs import read
from chooseonce.signlooks import look_signs
from tests.helping import FOLD, PAIR, Case

LINES = [
    "signs ab", "rows 2", "pairs p ab bc", "pairs p ab cd", "numbers n 1 else 0 a 1 e 2",
    "numbers n 2 else 0 af 0", "start s", "lot s", "way f(run 0 any / sign(ag), sign(h) / none)",
    "way f(s, sign / sign(bia))", "lot s", "way g(sign(j) / sign(k))", "ask a = first",
]


class SignLooks(Case):
    def test_as_the_document_prints_it(self):
        self.raises(BadSign("ca"), look_signs, read(FOLD.replace("ab ba", "ab ca")))

    def test_without_a_breach(self):
        self.same(look_signs(read(FOLD)), None)
        self.same(look_signs(program=read(PAIR)), None)
        self.same(look_signs(read("signs a\nrows 1\nstart s\nlot s\nway f(sign, none, s)")), None)

    def test_all_places_in_the_programs_sequence(self):
        text = "\n".join(LINES)
        for told, bad, good in (
            ("bc", "ab bc", "ab"), ("cd", "ab cd", "ab"), ("e", "e 2", "b 2"), ("af", "af 0", "aa 0"),
            ("ag", "(ag)", "(ab)"), ("h", "(h)", "(a)"), ("bia", "(bia)", "(ba)"), ("j", "(j)", "(a)"),
            ("k", "(k)", "(b)"),
        ):
            self.raises(BadSign(told), look_signs, read(text))
            text = text.replace(bad, good)
        self.same(look_signs(read(text)), None)

    def test_one_bad_character_is_enough(self):
        for word in ("ac", "ca", "cc"):
            self.raises(BadSign(word), look_signs, read(FOLD.replace("ab ba", word)))
        for letters in ("abc", "cab", "c"):
            text = FOLD.replace("free(sign", "free(sign(" + letters + ")")
            self.raises(BadSign(letters), look_signs, read(text))

    def test_it_looks_at_nothing_else(self):
        text = ("signs a\nrows 1\nstart no\nlot s\nway f(no) when no 0 0\nlot s\nway f(sign)\n"
                "judge j text\nfor f \"zz\" at 7\nask q = least no\nask q = first")
        self.same(look_signs(read(text)), None)
