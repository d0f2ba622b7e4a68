"""Which lots lead to which, and which have no greatest width."""

from chooseonce.boxes import mark_box
from chooseonce.living import Living


def steps_of(book):
    """Quadruples (lot, way, place, lot of the part) of all parts of live ways of useful lots."""
    return Living(book).steps


def comes_to(book, lot):
    """The lots to which steps lead from a useful lot, itself among them, in the program's sequence."""
    found = Living(book).comings(lot)
    return tuple([other for other in book.lots() if other in found])


def long_lots(book, row):
    """The useful lots that have no greatest width on the row."""
    return tuple(long_in(Living(book), row))


def long_in(living, row):
    """A list of these lots, of what lives of a book."""
    wide = _leading_to(living, _lots_with(living, row, _is_wide))
    long = _lots_with(living, row, _is_endless)
    for step in living.steps:
        wide_beside = any([_can_be_wide(piece, row, wide) for piece in living.others(step)])
        # The lot comes to itself again, each time with some more width.
        if wide_beside and step[0] in living.comings(step[3]):
            long.append(step[0])
    return _leading_to(living, long)


def _leading_to(living, lots):
    """A list of the useful lots from which steps lead to one of these."""
    return [lot for lot in living.useful if any([one in lots for one in living.comings(lot)])]


def _lots_with(living, row, is_such):
    """A list of the useful lots that have, in a live way, a mark on the row that is such."""
    found = []
    for lot in living.useful:
        for pieces in living.pieces(lot):
            marks = [piece[1][row] for piece in pieces if piece[0] == "plain"]
            if any([is_such(mark) for mark in marks]):
                found.append(lot)
    return found


def _is_endless(mark):
    return mark_box(mark)[1] is None


def _is_wide(mark):
    return mark_box(mark)[1] != 0


def _can_be_wide(piece, row, wide):
    """Whether a piece can have some width on the row; wide tells which lots can."""
    if piece[0] == "lot":
        return piece[1] in wide
    return _is_wide(piece[1][row])
