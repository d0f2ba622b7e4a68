"""The looks at a lot over a stretch: by its live ways and their cuts."""

from chooseonce.cutting import cuts_of
from chooseonce.dresses import dress_of, holds
from chooseonce.stretches import widths_of


class Looks:
    """The looks at pairs (lot, stretch); those of pairs with alike widths are found but once."""

    def __init__(self, shape):
        self.shape = shape
        self._by_widths = {}

    def every(self, spot):
        """A list of all pairs (way, cut) of a spot, in sequence."""
        lot, stretch = spot
        key = (lot, widths_of(stretch))
        if key not in self._by_widths:
            # Cuts hang on the widths of a stretch alone.
            self._by_widths[key] = self._found(lot, stretch)
        return self._by_widths[key]

    def holding(self, rows, spot):
        """A list of those for which letters and tests hold."""
        return [look for look in self.every(spot) if self._holds_by(rows, spot, look)]

    def way(self, spot, look):
        """The way by which a look looks at a spot."""
        return self.shape.book.ways(spot[0])[look[0]]

    def _holds_by(self, rows, spot, look):
        way = self.way(spot, look)
        return holds(self.shape.book, way, dress_of(rows, way, spot[1], look[1]))

    def _found(self, lot, stretch):
        looks = []
        for number in self.shape.live(lot):
            looks.extend([(number, cut) for cut in cuts_of(self.shape, lot, number, stretch)])
        return looks
