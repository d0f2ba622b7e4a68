"""How many cuts there are, by widths, found without listing them."""

from chooseonce.choices import all_choices
from chooseonce.cutting import counts_to, needs_width


def cuts_by_widths(shape, pieces, lengths):
    """A dict from widths, no greater than the lengths, to how many cuts the pieces have, not 0."""
    counts = {}
    for kept, sign in _with_some_left_out(shape, pieces):
        lines = []
        for row, length in enumerate(lengths):
            counted = counts_to([shape.box(piece, row) for piece in kept], length)
            lines.append([(width, many) for width, many in enumerate(counted) if many > 0])
        for choice in all_choices(lines):
            widths = tuple([width for width, _ in choice])
            counts[widths] = counts.get(widths, 0) + sign * _times([many for _, many in choice])
    return {widths: counts[widths] for widths in counts if counts[widths] > 0}


def _with_some_left_out(shape, pieces):
    """A list of pairs: some of the pieces, and 1 or -1.

    Of the pieces that need some width any may be left out, which is to have none. All cuts are
    counted, those in which one of them has none taken off, those in which two have none put to
    them, and so on.
    """
    some = [((), 1)]
    for piece in pieces:
        grown = [(kept + (piece,), sign) for kept, sign in some]
        if needs_width(shape, piece):
            grown.extend([(kept, -sign) for kept, sign in some])
        some = grown
    return some


def _times(numbers):
    product_of_all = 1
    for number in numbers:
        product_of_all = product_of_all * number
    return product_of_all
