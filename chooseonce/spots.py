"""Spots: lots with the stretches over which they may stand in candidates of the whole."""

from chooseonce.choices import all_choices
from chooseonce.stretches import parts_due, whole_of, widths_of


def is_spot(shape, lengths, spot):
    """Whether the pair of a lot and a stretch is a spot."""
    lot, stretch = spot
    widths = widths_of(stretch)
    if lot not in shape.useful or not lets_widths(shape, lot, widths):
        return False
    for row, (start, _) in enumerate(stretch):
        low, high = froms_let(shape, lengths, lot, widths, row)
        if start < low or start > high:
            return False
    return True


def spots_of(shape, lengths):
    """All spots, in their order."""
    spots = []
    for lot in shape.useful:
        for widths in widths_let(shape, lengths, lot):
            spots.extend(_spots_with(shape, lengths, lot, widths))
    return in_order(shape, spots)


def whole_spot(shape, lengths):
    """The spot of the start lot and the whole; None if this is none."""
    spot = (shape.book.start, whole_of(lengths))
    return spot if is_spot(shape, lengths, spot) else None


def part_spots(shape, spot, way, cut):
    """The spots of the parts of this live way, by one of the cuts of the spot."""
    lot, stretch = spot
    return tuple(parts_due(shape.book.ways(lot)[way], stretch, cut))


def in_order(shape, spots):
    """A tuple of spots of useful lots in the order of spots."""
    return tuple(sorted(spots, key=lambda spot: _order_key(shape, spot)))


def wave_key(shape, spot):
    """All widths added, and the rank: less for each spot that a part of this one may have."""
    return (sum(widths_of(spot[1])), shape.rank(spot[0]))


def widths_let(shape, lengths, lot):
    """A list of the widths of the lot, tuples, that are no greater than the lengths."""
    by_row = []
    for row, length in enumerate(lengths):
        least, most = shape.widths(lot, row)
        top = length if most is None else min(most, length)
        by_row.append(list(range(least, top + 1)))
    return [widths for widths in all_choices(by_row) if lets_widths(shape, lot, widths)]


def froms_let(shape, lengths, lot, widths, row):
    """The least and the greatest from on the row, with these widths; the least above it if none."""
    left_least, left_most, right_least, right_most = shape.margin(lot, row)
    room = lengths[row] - widths[row]
    low = left_least if right_most is None else max(left_least, room - right_most)
    high = room - right_least if left_most is None else min(left_most, room - right_least)
    return (low, high)


def lets_widths(shape, lot, widths):
    """Whether the widths lie between the lot's, and are not all 0 unless it is empty."""
    for row, width in enumerate(widths):
        least, most = shape.widths(lot, row)
        if width < least or (most is not None and width > most):
            return False
    return sum(widths) > 0 or shape.is_empty(lot)


def _spots_with(shape, lengths, lot, widths):
    """A list of the spots of the lot with these widths."""
    by_row = []
    for row, width in enumerate(widths):
        low, high = froms_let(shape, lengths, lot, widths, row)
        by_row.append([(start, start + width) for start in range(low, high + 1)])
    return [(lot, stretch) for stretch in all_choices(by_row)]


def _order_key(shape, spot):
    lot, stretch = spot
    total, rank = wave_key(shape, spot)
    froms = tuple([pair[0] for pair in stretch])
    return (total, rank, shape.place(lot), widths_of(stretch), froms)
