"""The greatest widths of lots."""

from chooseonce.boxes import mark_box
from chooseonce.comings import long_in
from chooseonce.living import Living


def greatest_widths(book, row):
    """The greatest widths on the row, for the useful lots: None for those that have none."""
    living = Living(book)
    known = greatests_in(living, row)
    return tuple([known.get(lot) for lot in living.useful])


def greatests_in(living, row):
    """A dict to the greatest width on the row from each useful lot that has one."""
    long = long_in(living, row)
    # No part of a lot that is not long is long, so these hang on one another alone.
    lots = [lot for lot in living.useful if lot not in long]
    known = {lot: 0 for lot in lots}
    told = _greatest_by(living, lots, row, known)
    while told != known:
        known = told
        told = _greatest_by(living, lots, row, known)
    return known


def _greatest_by(living, lots, row, known):
    """The greatest widths of these lots if those of parts have the known ones."""
    found = {}
    for lot in lots:
        found[lot] = max([_sum_of(pieces, row, known) for pieces in living.pieces(lot)])
    return found


def _sum_of(pieces, row, known):
    return sum([_greatest_of(piece, row, known) for piece in pieces])


def _greatest_of(piece, row, known):
    return known[piece[1]] if piece[0] == "lot" else mark_box(piece[1][row])[1]
