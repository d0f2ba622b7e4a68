"""Loops over the cuts of a stretch by a way.

The ends of the pieces are gone through row by row, on each row from left to right. Each loop lets
just those ends behind which the pieces that follow can use up the row; so no loop but that over a
first end is ever without a value.
"""

from chooseonce.boxes import added_boxes
from chooseonce.cutting import needs_width
from chooseonce.expressions import added, taken_off
from chooseonce.variables import end_name, from_on, number, variable, width_on


def loops_over_cuts(shape, lot, way):
    """The statement that looks at all cuts of the stretch by the way, in sequence."""
    pieces = shape.book.ways(lot)[way][1]
    statement = ("look", lot, way)
    for row in reversed(range(shape.book.rows)):
        for piece in reversed(range(len(pieces))):
            lows = tuple(_lows_of(shape, pieces, row, piece))
            highs = tuple(_highs_of(shape, pieces, row, piece))
            statement = ("for", end_name(row, piece), lows, highs, (statement,))
    return statement


def _lows_of(shape, pieces, row, piece):
    """A list of the lows of the end of the piece on the row."""
    begin = _begin_of(row, piece)
    lows = [added(begin, number(shape.box(pieces[piece], row)[0]))]
    if _is_told_late(shape, pieces[piece], row):
        lows.append(added(begin, _still_due(piece)))
    _, most = added_boxes([shape.box(one, row) for one in pieces[piece + 1:]])
    if most is not None:
        lows.append(taken_off(_end_of(row), number(most)))
    return lows


def _highs_of(shape, pieces, row, piece):
    """A list of the highs of the end of the piece on the row."""
    least, _ = added_boxes([shape.box(one, row) for one in pieces[piece + 1:]])
    highs = [taken_off(_end_of(row), number(least))]
    for later in range(piece + 1, len(pieces)):
        if _is_told_late(shape, pieces[later], row):
            # What is due is 0 or 1, or else below 0: the least high is that of just those with 1.
            highs.extend([taken_off(high, _still_due(later)) for high in list(highs)])
    most = shape.box(pieces[piece], row)[1]
    if most is not None:
        highs.append(added(_begin_of(row, piece), number(most)))
    return highs


def _is_told_late(shape, piece, row):
    """Whether the piece must have some width on this row if it has none on the row before."""
    return row == 1 and needs_width(shape, piece)


def _still_due(piece):
    """1 if the piece has no width on row 0, else at most 0."""
    return taken_off(added(number(1), _begin_of(0, piece)), variable(end_name(0, piece)))


def _begin_of(row, piece):
    """Where the piece begins on the row."""
    return from_on(row) if piece == 0 else variable(end_name(row, piece - 1))


def _end_of(row):
    """Where the stretch ends on the row."""
    return added(from_on(row), width_on(row))
