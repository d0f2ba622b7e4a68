"""The code of a program: nested loops that begin all spots and look at all their cuts."""

from chooseonce.cutloops import loops_over_cuts
from chooseonce.cutting import needs_width
from chooseonce.expressions import added, taken_off
from chooseonce.variables import length_of, number, variable, width_on


def code_of(shape):
    """Code that begins all spots, in their order, and looks at all cuts directly behind each."""
    if not shape.useful:
        return ()
    total = number(0)
    for row in range(shape.book.rows):
        total = added(total, length_of(row))
    lots = sorted(shape.useful, key=lambda lot: (shape.rank(lot), shape.place(lot)))
    body = tuple([_code_of_lot(shape, lot) for lot in lots])
    return (("for", "w", (number(0),), (total,), body),)


def _code_of_lot(shape, lot):
    """The statement for all spots of a lot with the widths added given by w."""
    body = (("new", lot),)
    for way in shape.live(lot):
        body = body + (loops_over_cuts(shape, lot, way),)
    for row in reversed(range(shape.book.rows)):
        lows, highs = _from_bounds(shape, lot, row)
        body = (("for", f"i{row}", lows, highs, body),)
    loops = _loops_over_widths(shape, lot, body)
    if needs_width(shape, ("lot", lot)):
        # The widths of such a lot may be 0 on each row, but not on all.
        return ("if", variable("w"), (loops,))
    return loops


def _loops_over_widths(shape, lot, body):
    """The body, for all widths that may be those of a spot of the lot and together are w."""
    lows, highs = _width_bounds(shape, lot, 0)
    total = variable("w")
    if shape.book.rows == 1:
        return ("for", "v0", lows + (total,), highs + (total,), body)
    left = taken_off(total, width_on(0))
    body = (("for", "v1", (left,), (left,), body),)
    other_lows, other_highs = _width_bounds(shape, lot, 1)
    lows = lows + tuple([taken_off(total, high) for high in other_highs])
    highs = highs + tuple([taken_off(total, low) for low in other_lows])
    return ("for", "v0", lows, highs, body)


def _width_bounds(shape, lot, row):
    """Lows and highs of the widths of spots of the lot on the row."""
    left_least, left_most, right_least, right_most = shape.margin(lot, row)
    least, most = shape.widths(lot, row)
    lows = [number(least)]
    highs = [taken_off(length_of(row), number(left_least + right_least))]
    if left_most is not None and right_most is not None:
        lows.append(taken_off(length_of(row), number(left_most + right_most)))
    if most is not None:
        highs.append(number(most))
    return (tuple(lows), tuple(highs))


def _from_bounds(shape, lot, row):
    """Lows and highs of the froms of spots of the lot with the width given on the row."""
    left_least, left_most, right_least, right_most = shape.margin(lot, row)
    room = taken_off(length_of(row), width_on(row))
    lows = [number(left_least)]
    highs = [taken_off(room, number(right_least))]
    if right_most is not None:
        lows.append(taken_off(room, number(right_most)))
    if left_most is not None:
        highs.append(number(left_most))
    return (tuple(lows), tuple(highs))
