"""The cuts of a stretch by a way."""

from chooseonce.boxes import added_boxes
from chooseonce.stretches import widths_of


def cuts_in(boxes, width):
    """All tuples of numbers, one in each box, that add up to width, in sequence."""
    cuts = [((), width)]
    for place, box in enumerate(boxes):
        rest = added_boxes(boxes[place + 1:])
        cuts = [(begun + (one,), left - one)
                for begun, left in cuts for one in _numbers_let(box, rest, left)]
    return tuple([begun for begun, _ in cuts])


def many_cuts(boxes, width):
    """How many tuples cuts_in tells, found without listing them."""
    return counts_to(boxes, width)[width]


def counts_to(boxes, most):
    """A list with how many tuples cuts_in tells for each width from 0 to most."""
    counts = [1] + [0] * most
    for least, greatest in boxes:
        # What the boxes ahead add up to is from low to width - least.
        lows = [0 if greatest is None else max(0, width - greatest) for width in range(most + 1)]
        counts = [sum(counts[low:max(0, width - least + 1)]) for width, low in enumerate(lows)]
    return counts


def cuts_of(shape, lot, way, stretch):
    """The cuts of the lot with the stretch by this live way, in sequence."""
    pieces = shape.book.ways(lot)[way][1]
    cuts = [()]
    for row, width in enumerate(widths_of(stretch)):
        lines = cuts_in(tuple([shape.box(piece, row) for piece in pieces]), width)
        cuts = [cut + (line,) for cut in cuts for line in lines]
    places = [place for place, piece in enumerate(pieces) if needs_width(shape, piece)]
    return tuple([cut for cut in cuts if _have_width(cut, places)])


def needs_width(shape, piece):
    """Whether the piece must have some width on some row, though its boxes let 0 on all."""
    if piece[0] != "lot" or shape.is_empty(piece[1]):
        return False
    return all([shape.box(piece, row)[0] == 0 for row in range(shape.book.rows)])


def _numbers_let(box, rest, left):
    """A list of the numbers in the box that leave, of what is left, what lies in the rest's box."""
    least = box[0] if rest[1] is None else max(box[0], left - rest[1])
    most = left - rest[0] if box[1] is None else min(box[1], left - rest[0])
    return list(range(least, most + 1))


def _have_width(cut, places):
    """Whether each of these places has some width on some row."""
    return all([any([line[place] > 0 for line in cut]) for place in places])
