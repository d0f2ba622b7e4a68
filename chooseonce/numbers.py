"""The candidates of the whole, numbered in their order."""

from chooseonce.errors import BadCandidate, BadNumber
from chooseonce.looks import Looks
from chooseonce.rowlooks import checked_rows
from chooseonce.spots import part_spots, spots_of, whole_spot
from chooseonce.standing import wrong_at
from chooseonce.stretches import whole_of
from chooseonce.trees import nodes_beneath


class Numbers:
    """The candidates of the start lot over the whole, with numbers from 0 on."""

    def __init__(self, shape, rows):
        self._shape = shape
        self._rows = rows
        self._lengths = checked_rows(shape.book, rows)
        # For each spot a list of triples, one for each look by which there are candidates: the
        # look, the spots of its parts, and how many candidates there are by it.
        self._by_looks = {}
        self._many = {}
        looks = Looks(shape)
        for spot in spots_of(shape, self._lengths):
            self._by_looks[spot] = self._counted_looks(looks, spot)
            self._many[spot] = sum([many for _, _, many in self._by_looks[spot]])

    def many(self):
        """How many candidates there are."""
        whole = whole_spot(self._shape, self._lengths)
        return 0 if whole is None else self._many[whole]

    def many_at(self, spot):
        """How many candidates the spot has."""
        return self._many[spot]

    def nth(self, number):
        """The candidate with this number."""
        if number < 0 or number >= self.many():
            raise BadNumber(number)
        return self._tree(whole_spot(self._shape, self._lengths), number)

    def number_of(self, candidate):
        """The number of a candidate."""
        book = self._shape.book
        whole = whole_of(self._lengths)
        wrong = wrong_at(book, self._rows, candidate, book.start, whole)
        if wrong is not None:
            raise BadCandidate(wrong[0], wrong[1])
        numbers = []
        for _, tree, stretch in nodes_beneath(book, candidate, whole)[::-1]:
            # All beneath a node stands behind it, so its first part was the last one numbered.
            given = [numbers.pop() for _ in tree[3]]
            numbers.append(self._number_at((tree[0], stretch), (tree[1], tree[2]), given))
        return numbers[0]

    def _counted_looks(self, looks, spot):
        counted = []
        for number, cut, _ in looks.holding(self._rows, spot):
            parts = part_spots(self._shape, spot, number, cut)
            many = 1
            for part in parts:
                many = many * self._many[part]
            if many > 0:
                counted.append(((number, cut), parts, many))
        return counted

    def _tree(self, spot, number):
        """The candidate of the spot with this number, among those of the spot."""
        left = number
        place = 0
        while left >= self._by_looks[spot][place][2]:
            left = left - self._by_looks[spot][place][2]
            place += 1
        look, parts, _ = self._by_looks[spot][place]
        # The last part turns fastest.
        turned = []
        for part in parts[::-1]:
            turned.append((part, left % self._many[part]))
            left = left // self._many[part]
        trees = []
        for part, one in turned[::-1]:
            trees.append(self._tree(part, one))
        return (spot[0], look[0], look[1], tuple(trees))

    def _number_at(self, spot, look, given):
        """The number, among those of the spot, of a candidate whose parts have the numbers given."""
        ahead = 0
        for one, parts, many in self._by_looks[spot]:
            if one == look:
                within = 0
                for part, number in zip(parts, given):
                    within = within * self._many[part] + number
                return ahead + within
            ahead += many
        return ahead
