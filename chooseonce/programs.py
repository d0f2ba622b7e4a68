"""Reading a whole program."""

from chooseonce.askreading import ask_from
from chooseonce.errors import BadText
from chooseonce.formreading import formula_from
from chooseonce.readers import LineReader, word_in_hand
from chooseonce.wayreading import way_from

MOST_SIGNS = 6

# The words with which the line behind one with this first word may begin.
DUE_BEHIND = {
    "": ("signs",),
    "signs": ("rows",),
    "rows": ("pairs", "numbers", "start"),
    "pairs": ("pairs", "numbers", "start"),
    "numbers": ("numbers", "start"),
    "start": ("lot",),
    "lot": ("way",),
    "way": ("way", "lot", "judge", "ask"),
    "judge": ("for", "judge", "ask"),
    "for": ("for", "judge", "ask"),
    "ask": ("ask",),
}

MAY_BE_LAST = ("way", "judge", "for", "ask")


class Draft:
    """What has been read of a program so far."""

    def __init__(self):
        self.signs = ""
        self.rows = 1
        self.pairs = []
        self.numbers = []
        self.start = ""
        self.lots = []
        self.judges = []
        self.asks = []

    def finished(self):
        """The tree of all that has been read."""
        lots = tuple([(name, tuple(ways)) for name, ways in self.lots])
        judges = tuple([(name, sort, tuple(formulas)) for name, sort, formulas in self.judges])
        pairs, numbers, asks = tuple(self.pairs), tuple(self.numbers), tuple(self.asks)
        return ("program", self.signs, self.rows, pairs, numbers, self.start, lots, judges, asks)


def read(text):
    """The program of a text."""
    draft = Draft()
    last = ""
    for line, written in enumerate(text.split("\n")):
        if written.strip(" ") != "":
            reader = LineReader(line, written)
            last = _due_word(reader, last)
            take_line = LINES[last]
            take_line(draft, reader)
            reader.done()
    if last not in MAY_BE_LAST:
        raise BadText(text.count("\n") + 1, 0)
    return draft.finished()


def _due_word(reader, last):
    """The first word of a line behind one that began with last."""
    word = word_in_hand(reader)
    if word not in DUE_BEHIND[last]:
        reader.bad()
    return word


def _take_signs(draft, reader):
    reader.expect("signs")
    if len(word_in_hand(reader)) > MOST_SIGNS:
        reader.bad()
    draft.signs = reader.take_letters()


def _take_rows(draft, reader):
    reader.expect("rows")
    draft.rows = _one_or_two_from(reader)


def _take_pairs(draft, reader):
    reader.expect("pairs")
    name = reader.take_name()
    words = [reader.take_word(2)]
    while reader.look()[0] != "end":
        words.append(_new_word_from(reader, 2, words))
    draft.pairs.append((name, tuple(words)))


def _take_numbers(draft, reader):
    reader.expect("numbers")
    name = reader.take_name()
    width = _one_or_two_from(reader)
    reader.expect("else")
    other = reader.take_integer()
    words = []
    entries = []
    while reader.look()[0] != "end":
        word = _new_word_from(reader, width, words)
        words.append(word)
        entries.append((word, reader.take_integer()))
    draft.numbers.append((name, width, other, tuple(entries)))


def _take_start(draft, reader):
    reader.expect("start")
    draft.start = reader.take_name()


def _take_lot(draft, reader):
    reader.expect("lot")
    draft.lots.append((reader.take_name(), []))


def _take_way(draft, reader):
    ways = draft.lots[-1][1]
    ways.append(way_from(reader, draft.rows))


def _take_judge(draft, reader):
    reader.expect("judge")
    name = reader.take_name()
    if word_in_hand(reader) not in ("number", "product", "text"):
        reader.bad()
    draft.judges.append((name, reader.take(), []))


def _take_for(draft, reader):
    reader.expect("for")
    maker = reader.take_name()
    _, sort, formulas = draft.judges[-1]
    formulas.append((maker, formula_from(reader, sort, draft.rows)))


def _take_ask(draft, reader):
    reader.expect("ask")
    name = reader.take_name()
    reader.expect("=")
    draft.asks.append((name, ask_from(reader)))


def _one_or_two_from(reader):
    if reader.look() not in (("number", 1), ("number", 2)):
        reader.bad()
    return reader.take()


def _new_word_from(reader, width, words):
    """Takes a word of this width that is none of those before it."""
    if word_in_hand(reader) in words:
        reader.bad()
    return reader.take_word(width)


LINES = {
    "signs": _take_signs,
    "rows": _take_rows,
    "pairs": _take_pairs,
    "numbers": _take_numbers,
    "start": _take_start,
    "lot": _take_lot,
    "way": _take_way,
    "judge": _take_judge,
    "for": _take_for,
    "ask": _take_ask,
}
