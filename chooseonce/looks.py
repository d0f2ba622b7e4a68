"""The looks at a lot over a stretch: by its live ways and their cuts."""

from chooseonce.cutting import cuts_of
from chooseonce.dresses import dress_of, holds
from chooseonce.stretches import widths_of


class Looks:
    """The looks at pairs (lot, stretch); those of pairs with alike widths are found but once."""

    def __init__(self, shape):
        self.shape = shape
        self._by_widths = {}

    def every(self, spot):
        """A dict from all pairs (way, cut) of a spot, in sequence, to True."""
        lot, stretch = spot
        key = (lot, widths_of(stretch))
        if key not in self._by_widths:
            # Cuts hang on the widths of a stretch alone.
            self._by_widths[key] = self._found(lot, stretch)
        return self._by_widths[key]

    def holding(self, rows, spot):
        """A list of triples (way, cut, dress), those for which letters and tests hold."""
        found = []
        for number, cut in self.every(spot):
            way = self.shape.book.ways(spot[0])[number]
            dress = dress_of(rows, way, spot[1], cut)
            if holds(self.shape.book, way, dress):
                found.append((number, cut, dress))
        return found

    def _found(self, lot, stretch):
        looks = {}
        for number in self.shape.live(lot):
            for cut in cuts_of(self.shape, lot, number, stretch):
                looks[(number, cut)] = True
        return looks
