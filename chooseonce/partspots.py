"""The spots of the parts of a lot over a stretch, by all its cuts, found without listing cuts.

There may be very many more cuts than spots of parts: plain pieces share what parts leave in many
ways, and parts that follow one another part it in many ways.
"""

from chooseonce.boxes import added_boxes
from chooseonce.choices import all_choices
from chooseonce.cutting import cuts_in, needs_width
from chooseonce.stretches import widths_of


class PartSpots:
    """The spots of parts; those of pairs (lot, stretch) with alike widths are found but once."""

    def __init__(self, shape):
        self.shape = shape
        self._by_widths = {}

    def asked_by(self, spot):
        """A list of the unlike spots that are asked for in the looks at the spot."""
        lot, stretch = spot
        key = (lot, widths_of(stretch))
        if key not in self._by_widths:
            # Cuts hang on the widths of a stretch alone.
            self._by_widths[key] = self._found(lot, key[1])
        froms = [start for start, _ in stretch]
        return [(part, _moved(pairs, froms)) for part, pairs in self._by_widths[key]]

    def _found(self, lot, widths):
        """A dict from the unlike spots, as they are where the stretch begins at 0, to True."""
        found = {}
        for number in self.shape.live(lot):
            pieces = self.shape.book.ways(lot)[number][1]
            for place, piece in enumerate(pieces):
                if piece[0] == "lot":
                    for stretch in _stretches_of_part(self.shape, pieces, place, widths):
                        found[(piece[1], stretch)] = True
        return found


def _stretches_of_part(shape, pieces, place, widths):
    """A list of the stretches of the part at the place, by all cuts of these widths, from 0 on."""
    groups = (pieces[:place], pieces[place:place + 1], pieces[place + 1:])
    least = _least_of_groups(shape, groups)
    lines = [_lines_of_groups(shape, groups, row, width) for row, width in enumerate(widths)]
    found = []
    for cut in all_choices(lines):
        sums = [sum([line[number] for line in cut]) for number in range(len(groups))]
        if all([one >= low for one, low in zip(sums, least)]):
            found.append(tuple([(line[0], line[0] + line[1]) for line in cut]))
    return found


def _lines_of_groups(shape, groups, row, width):
    """All tuples of the widths of the groups on a row that has this width.

    Each piece may have any width from its least to its greatest one, so the pieces of a group have
    together any from the sum of these to the sum of those.
    """
    return cuts_in(tuple([_box_of_group(shape, group, row) for group in groups]), width)


def _box_of_group(shape, group, row):
    return added_boxes([shape.box(piece, row) for piece in group])


def _least_of_groups(shape, groups):
    """A list with, for each group, how much width its pieces have at least, on all rows together.

    That is their least widths, and 1 more for each piece that must have some width on some row,
    though its least width is 0 on each: it may have it on whichever row there is any to spare.
    """
    least = []
    for group in groups:
        lows = [_box_of_group(shape, group, row)[0] for row in range(shape.book.rows)]
        least.append(sum(lows) + len([piece for piece in group if needs_width(shape, piece)]))
    return least


def _moved(pairs, froms):
    """A stretch told from 0 on, moved to where it is if that begins at these froms."""
    return tuple([(start + begin, start + end) for start, (begin, end) in zip(froms, pairs)])
