"""Spots, cuts, prices, needs and waves straight from [9] and [10], to compare with."""

from itertools import product

from tests.listing import divided, placed
from tests.shapereckoning import empty, margins, marks_set, ranks, used_ways, widths


class Reckoned:
    """What [9] and [10] tell of a program without a ring, for rows of some lengths."""

    def __init__(self, program, lengths):
        self.program = program
        self.lengths = lengths
        self.ways = used_ways(program)
        rows = range(program[2])
        self.widths = [widths(program, row) for row in rows]
        self.margins = [margins(program, row) for row in rows]
        self.empty = empty(program)
        self.ranks = ranks(program)
        self.places = {lot: at for at, (lot, _) in enumerate(program[6])}

    def is_spot(self, spot):
        lot, stretch = spot
        if lot not in self.ways:
            return False
        for row, (start, end) in enumerate(stretch):
            left, left_most, right, right_most = self.margins[row][lot]
            if not lies_between(start, left, left_most):
                return False
            if not lies_between(self.lengths[row] - end, right, right_most):
                return False
            if not lies_between(end - start, *self.widths[row][lot]):
                return False
        return lot in self.empty or any(start < end for start, end in stretch)

    def spots(self):
        """All spots, in their order."""
        pairs = [[(a, b) for b in range(length + 1) for a in range(b + 1)] for length in self.lengths]
        found = [(lot, stretch) for lot in self.ways for stretch in product(*pairs)]
        return tuple(sorted([spot for spot in found if self.is_spot(spot)], key=self.order))

    def order(self, spot):
        lot, stretch = spot
        across = tuple(end - start for start, end in stretch)
        return (*self.wave(spot), self.places[lot], across, tuple(start for start, _ in stretch))

    def wave(self, spot):
        return (sum(end - start for start, end in spot[1]), self.ranks[spot[0]])

    def whole(self):
        spot = (self.program[5], tuple((0, length) for length in self.lengths))
        return spot if self.is_spot(spot) else None

    def lets(self, pieces, cut):
        for at, (word, told) in enumerate(pieces):
            across = [row[at] for row in cut]
            for row, width in enumerate(across):
                if word == "lot":
                    if not lies_between(width, *self.widths[row][told]):
                        return False
                elif not marks_set(told[row]) >> width & 1:
                    return False
            if word == "lot" and told not in self.empty and not any(across):
                return False
        return True

    def looks(self, spot):
        """All looks at the spot, in sequence: triples (way, cut, spots of the parts)."""
        lot, stretch = spot
        found = []
        for number, way in self.ways[lot].items():
            for cut in product(*[divided(end - start, len(way[1])) for start, end in stretch]):
                if self.lets(way[1], cut):
                    parts = [(told, placed(stretch, cut, at))
                             for at, (word, told) in enumerate(way[1]) if word == "lot"]
                    found.append((number, cut, parts))
        return found

    def kept(self, plan):
        return [spot for spot in self.spots() if spot[0] in plan]

    def work(self, plan, spot):
        """The looks that it takes to work the spot out once."""
        looks = self.looks(spot)
        return len(looks) + sum(self.work(plan, part) for _, _, parts in looks for part in parts
                                if part[0] not in plan)

    def price(self, plan):
        whole = self.whole()
        price = sum(self.work(plan, spot) for spot in self.kept(plan))
        return price if whole is None or whole[0] in plan else price + self.work(plan, whole)

    def needs(self, plan, spot):
        """The set of the needs of a spot."""
        found = set()
        for _, _, parts in self.looks(spot):
            for part in parts:
                found |= {part} if part[0] in plan else self.needs(plan, part)
        return found

    def plans(self):
        lots = [lot for lot, _ in self.program[6] if lot in self.ways]
        return [tuple(lot for at, lot in enumerate(lots) if number >> at & 1)
                for number in range(2 ** len(lots))]

    def lots_and_widths(self):
        across = [range(length + 1) for length in self.lengths]
        return [(lot, told) for lot in self.ways for told in product(*across)]


def lies_between(number, least, most):
    return least <= number and (most is None or number <= most)


def small_lengths(rows):
    """Lengths for which spots are soon listed."""
    return [(0,), (1,), (3,)] if rows == 1 else [(0, 0), (1, 0), (1, 2)]
