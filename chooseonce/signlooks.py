"""The look at words and letters with characters that are no signs."""

from chooseonce.errors import BadSign
from chooseonce.programplaces import NUMBERS, PAIRS, SIGNS, all_ways
from chooseonce.words import has_only


def look_signs(program):
    """Raises BadSign for the first word or letters with a character that is no sign."""
    for word in _words_of(program) + _letters_of(program):
        if not has_only(word, program[SIGNS]):
            raise BadSign(word)


def _words_of(program):
    """The words of all pairs, then of the entries of all numbers."""
    words = []
    for pair in program[PAIRS]:
        words.extend(pair[1])
    for numbers in program[NUMBERS]:
        words.extend([word for word, integer in numbers[3]])
    return words


def _letters_of(program):
    """The letters of all pieces, each piece by rows."""
    letters = []
    for way in all_ways(program):
        for piece in way[1]:
            if piece[0] == "plain":
                letters.extend([mark[1] for mark in piece[1] if mark[0] == "sign"])
    return letters
