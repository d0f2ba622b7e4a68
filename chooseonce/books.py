"""A program that has passed all looks, and what it tells by its names."""

from chooseonce.errors import NoName
from chooseonce.formulalooks import look_asks, look_formulas
from chooseonce.kinds import kinds_by_maker, part_places
from chooseonce.namelooks import look_names
from chooseonce.programplaces import (
    ASKS, JUDGES, LOTS, NUMBERS, PAIRS, ROWS, SIGNS, START, all_ways,
)
from chooseonce.reflooks import look_makers, look_mentions, look_tests
from chooseonce.signlooks import look_signs


class Book:
    """A program that has passed the seven looks; it raises what they raise."""

    def __init__(self, program):
        _look_all(program)
        self.program = program
        self.signs = program[SIGNS]
        self.rows = program[ROWS]
        self.start = program[START]
        self._ways = {name: ways for name, ways in program[LOTS]}
        self._kinds = kinds_by_maker(all_ways(program))
        self._pairs = {name: words for name, words in program[PAIRS]}
        self._numbers = {entry[0]: _told_by(entry) for entry in program[NUMBERS]}
        self._sorts = {entry[0]: entry[1] for entry in program[JUDGES]}
        self._formulas = _formulas_of(program)
        self._asks = {name: ask for name, ask in program[ASKS]}

    def __eq__(self, other):
        return isinstance(other, Book) and self.program == other.program

    def lots(self):
        """The names of the lots, in the program's sequence."""
        return tuple(self._ways)

    def ways(self, lot):
        """The ways of a lot."""
        return self._ways[lot]

    def makers(self):
        """The unlike makers, as they first stand in the ways."""
        return tuple(self._kinds)

    def kinds(self, maker):
        """The kinds of a maker."""
        return self._kinds[maker]

    def parts(self, maker):
        """The places of the parts of a maker."""
        return part_places(self._kinds[maker])

    def in_pairs(self, name, word):
        """Whether the pairs with this name have the word."""
        return word in self._pairs[name]

    def number_for(self, name, word):
        """The integer that the numbers with this name tell for the word."""
        other, entries = self._numbers[name]
        return entries.get(word, other)

    def judges(self):
        """The names of the judges, in the program's sequence."""
        return tuple(self._sorts)

    def sort_of(self, judge):
        """The sort of a judge."""
        return self._sorts[judge]

    def formula(self, judge, maker):
        """The formula of a judge for a maker."""
        return self._formulas[(judge, maker)]

    def asks(self):
        """The names of the asks, in the program's sequence."""
        return tuple(self._asks)

    def ask(self, name):
        """The ask with this name."""
        if name not in self._asks:
            raise NoName(name)
        return self._asks[name]


def _look_all(program):
    """Passes the program to all looks, in their sequence."""
    look_names(program)
    look_signs(program)
    look_mentions(program)
    look_makers(program)
    look_tests(program)
    look_formulas(program)
    look_asks(program)


def _told_by(numbers):
    """What numbers tell: the other integer, and a dict of their entries."""
    entries = {word: integer for word, integer in numbers[3]}
    return (numbers[2], entries)


def _formulas_of(program):
    """A dict with the formulas of all judges, by judge and maker."""
    found = {}
    for judge, _, formulas in program[JUDGES]:
        for maker, formula in formulas:
            found[(judge, maker)] = formula
    return found
