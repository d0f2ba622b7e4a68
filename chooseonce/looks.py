"""The looks at a lot over a stretch: by its live ways and their cuts."""

from chooseonce.cutting import cuts_of
from chooseonce.dresses import dress_of, holds
from chooseonce.stretches import parts_due


def holding_looks(shape, rows, spot):
    """Pairs (way, cut), in sequence, for which letters and tests hold; spot is (lot, stretch)."""
    lot, stretch = spot
    looks = []
    for number in shape.live(lot):
        way = shape.book.ways(lot)[number]
        cuts = cuts_of(shape, lot, number, stretch)
        looks.extend([(number, cut) for cut in cuts
                      if holds(shape.book, way, dress_of(rows, way, stretch, cut))])
    return looks


def spots_below(shape, spot, look):
    """A tuple of the pairs (lot, stretch) of the parts, by a look at the spot."""
    number, cut = look
    way = shape.book.ways(spot[0])[number]
    return tuple(parts_due(way, spot[1], cut))
