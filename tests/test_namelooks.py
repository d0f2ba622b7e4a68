"""[24]: the look at names."""

from chooseonce.errors import TwiceNamed
from chooseonce.namelooks import look_names
from chooseonce.programs import read
from tests.helping import FOLD, PAIR, Case

LINES = [
    "signs ab", "rows 1", "pairs a ab", "pairs b ab", "numbers a 1 else 0", "numbers b 1 else 0",
    "start a", "lot a", "way a(a)", "way a(a)", "lot b", "way a(a)", "judge a text", "judge b text",
    "ask a = first", "ask b = first",
]


class NameLooks(Case):
    def test_as_the_document_prints_it(self):
        self.raises(TwiceNamed("most"), look_names, read(FOLD + "\nask most = first"))

    def test_without_a_breach(self):
        self.same(look_names(read(FOLD)), None)
        self.same(look_names(program=read(PAIR)), None)

    def test_each_list_by_itself(self):
        self.same(look_names(read("\n".join(LINES))), None)

    def test_each_list(self):
        for at in (3, 5, 10, 13, 15):
            lines = list(LINES)
            lines[at] = lines[at].replace(" b", " a", 1)
            self.raises(TwiceNamed("a"), look_names, read("\n".join(lines)))

    def test_not_only_side_by_side(self):
        for at, text in ((4, "pairs a ba"), (6, "numbers a 2 else 1"), (12, "lot a\nway c(a)"),
                         (14, "judge a number"), (16, "ask a = total c")):
            lines = LINES[:at] + [text] + LINES[at:]
            self.raises(TwiceNamed("a"), look_names, read("\n".join(lines)))

    def test_the_first_list_is_told(self):
        extra = {4: "pairs p ab\npairs p ab", 6: "numbers n 1 else 0\nnumbers n 1 else 0",
                 12: "lot l\nway a(a)\nlot l\nway a(a)", 14: "judge j text\njudge j text",
                 16: "ask q = first\nask q = first"}
        places = sorted(extra)
        for first, name in zip(range(5), ("p", "n", "l", "j", "q")):
            lines = []
            for at, line in enumerate(LINES + [""]):
                if at in places[first:]:
                    lines.append(extra[at])
                lines.append(line)
            self.raises(TwiceNamed(name), look_names, read("\n".join(lines)))

    def test_the_first_that_stood_before_is_told(self):
        text = "\n".join(LINES) + "\nask b = first\nask a = first"
        self.raises(TwiceNamed("b"), look_names, read(text))

    def test_it_looks_at_nothing_else(self):
        text = "signs a\nrows 1\nstart no\nlot s\nway f(no) when no 0 0\nask q = least no"
        self.same(look_names(read(text)), None)
