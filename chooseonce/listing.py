"""All candidates of a lot over a stretch."""

from chooseonce.choices import all_choices
from chooseonce.looks import Looks
from chooseonce.nodevalues import node_value
from chooseonce.rowlooks import checked_rows
from chooseonce.spots import part_spots, wave_key
from chooseonce.stretches import whole_of


def candidates_of(shape, rows, lot, stretch):
    """All candidates of the lot over the stretch, in their order."""
    return listed_values(shape, ("first",), rows, lot, stretch)


def all_candidates(shape, rows):
    """All candidates of the start lot over the whole, in their order."""
    return whole_values(shape, ("first",), rows)


def whole_values(shape, ask, rows):
    """The values by the ask of all candidates of the start lot over the whole, in their order."""
    lengths = checked_rows(shape.book, rows)
    if shape.book.start not in shape.useful:
        return ()
    return listed_values(shape, ask, rows, shape.book.start, whole_of(lengths))


def listed_values(shape, ask, rows, lot, stretch):
    """The values by the ask of all candidates of the lot over the stretch, in their order."""
    checked_rows(shape.book, rows)
    spot = (lot, stretch)
    by_widths = Looks(shape)
    looks = _looks_beneath(shape, spot, lambda part: by_widths.holding(rows, part))
    filled = _filled_looks(shape, looks)
    used = _looks_beneath(shape, spot, lambda part: filled[part])
    values = {}
    for one in _in_order(shape, used):
        values[one] = _values_at(shape, ask, one, used[one], values)
    return tuple(values[spot])


def _looks_beneath(shape, spot, looks_at):
    """A dict to its looks from the spot, and from all spots that parts have by looks.

    looks_at tells the looks of a spot.
    """
    looks = {}
    due = [spot]
    while due:
        one = due.pop()
        if one not in looks:
            looks[one] = looks_at(one)
            for number, cut, _ in looks[one]:
                due.extend(part_spots(shape, one, number, cut))
    return looks


def _filled_looks(shape, looks):
    """The same with only those looks whose parts all have candidates.

    Else candidates would be listed of which none stands in a candidate of the spot; there may be
    far more of them than of those.
    """
    filled = {}
    for spot in _in_order(shape, looks):
        filled[spot] = []
        for number, cut, dress in looks[spot]:
            if all([filled[part] for part in part_spots(shape, spot, number, cut)]):
                filled[spot].append((number, cut, dress))
    return filled


def _in_order(shape, spots):
    """A list of spots in which each stands behind those that its parts have by any look."""
    return sorted(spots, key=lambda spot: wave_key(shape, spot))


def _values_at(shape, ask, spot, looks, known):
    """A list of the values of the candidates of a spot; known has those of its parts' spots."""
    lot = spot[0]
    values = []
    for number, cut, dress in looks:
        maker = shape.book.ways(lot)[number][0]
        parts = [known[part] for part in part_spots(shape, spot, number, cut)]
        for given in all_choices(parts):
            values.append(node_value(shape.book, ask, maker, dress, given, (lot, number, cut)))
    return values
