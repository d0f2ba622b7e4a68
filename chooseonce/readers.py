"""A reader that goes through the words of one line."""

from chooseonce.errors import BadText
from chooseonce.words import LETTERS, has_only, is_name, words_in


class LineReader:
    """Goes through one line word by word; what raises an error takes nothing."""

    def __init__(self, line, text):
        self.line = line
        self.text = text
        self.words = words_in(line, text)
        self.at = 0

    def look(self):
        """The pair (kind, value) in hand."""
        kind, value, _ = self.words[self.at]
        return (kind, value)

    def take(self):
        """Takes the word in hand; at the end it returns None and stays."""
        kind, value, _ = self.words[self.at]
        if kind != "end":
            self.at += 1
        return value

    def expect(self, value):
        """Takes the word or mark with just this value."""
        if self.look() not in (("word", value), ("mark", value)):
            self.bad()
        return self.take()

    def done(self):
        """Returns None if the line is at its end."""
        if self.look()[0] != "end":
            self.bad()

    def bad(self):
        """Raises the error for the word in hand."""
        raise BadText(self.line, self.words[self.at][2])

    def take_name(self):
        """Takes a name."""
        kind, value = self.look()
        if kind != "word" or not is_name(value):
            self.bad()
        return self.take()

    def take_number(self):
        """Takes a number."""
        if self.look()[0] != "number":
            self.bad()
        return self.take()

    def take_integer(self):
        """Takes a number that may have a minus in front."""
        if self.look() != ("mark", "-"):
            return self.take_number()
        kind, value, place = self.words[self.at + 1]
        if kind != "number":
            # The word behind the minus is at fault, but the minus must not be taken.
            raise BadText(self.line, place)
        self.at += 2
        return -value

    def take_letters(self):
        """Takes a word of unlike small letters."""
        kind, value = self.look()
        if kind != "word" or not has_only(value, LETTERS) or len(set(value)) < len(value):
            self.bad()
        return self.take()

    def take_word(self, width):
        """Takes a word of just this many small letters."""
        kind, value = self.look()
        if kind != "word" or not has_only(value, LETTERS) or len(value) != width:
            self.bad()
        return self.take()


def word_in_hand(reader):
    """The value in hand if it is of kind word, else an empty string."""
    kind, value = reader.look()
    return value if kind == "word" else ""


def has_mark(reader, mark):
    """Whether this mark is in hand."""
    return reader.look() == ("mark", mark)


def sum_from(reader, take_one):
    """Takes items, at least one, parted by plus and minus; the first may have a minus in front.

    take_one takes an item from the reader, and is told 1 or -1, its sign.
    """
    sign = 1
    if has_mark(reader, "-"):
        reader.take()
        sign = -1
    found = [take_one(sign)]
    while has_mark(reader, "+") or has_mark(reader, "-"):
        sign = 1 if reader.take() == "+" else -1
        found.append(take_one(sign))
    return tuple(found)
