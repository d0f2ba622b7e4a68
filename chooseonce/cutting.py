"""The cuts of a stretch by a way."""

from chooseonce.boxes import added_boxes
from chooseonce.stretches import widths_of


def cuts_in(boxes, width):
    """All tuples of numbers, one in each box, that add up to width, in sequence."""
    cuts = [((), width)]
    for place, box in enumerate(boxes):
        rest = added_boxes(boxes[place + 1:])
        cuts = [(begun + (one,), left - one)
                for begun, left in cuts for one in _numbers_let(box, rest, left)]
    return tuple([begun for begun, _ in cuts])


def cuts_of(shape, lot, way, stretch):
    """The cuts of the lot with the stretch by this live way, in sequence."""
    pieces = shape.book.ways(lot)[way][1]
    cuts = [()]
    for row, width in enumerate(widths_of(stretch)):
        lines = cuts_in(tuple([shape.box(piece, row) for piece in pieces]), width)
        cuts = [cut + (line,) for cut in cuts for line in lines]
    # Only these lots have boxes from 0 on all rows, and no candidates of width 0.
    places = [place for place, piece in enumerate(pieces)
              if piece[0] == "lot" and not shape.is_empty(piece[1])]
    return tuple([cut for cut in cuts if _have_width(cut, places)])


def _numbers_let(box, rest, left):
    """A list of the numbers in the box that leave, of what is left, what lies in the rest's box."""
    least = box[0] if rest[1] is None else max(box[0], left - rest[1])
    most = left - rest[0] if box[1] is None else min(box[1], left - rest[0])
    return list(range(least, most + 1))


def _have_width(cut, places):
    """Whether each of these places has some width on some row."""
    return all([any([line[place] > 0 for line in cut]) for place in places])
