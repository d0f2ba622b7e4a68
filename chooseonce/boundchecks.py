"""Bounds as papers."""

from chooseonce.boxbounds import formula_bounds
from chooseonce.looks import Looks
from chooseonce.rowlooks import checked_rows
from chooseonce.spots import is_spot, part_spots

UNKNOWN = "unknown"


def bounds_fit(shape, judge, rows, bounds):
    """None if the bounds fit, else the place of a pair, and why."""
    lengths = checked_rows(shape.book, rows)
    known = {}
    for number, (spot, bound) in enumerate(bounds):
        if not is_spot(shape, lengths, spot):
            return (number, "spot")
        if spot in known:
            return (number, "twice")
        known[spot] = bound
    looks = Looks(shape)
    for number, (spot, _) in enumerate(bounds):
        why = _wrong_bound(looks, judge, rows, spot, known)
        if why is not None:
            return (number, why)
    return None


def _wrong_bound(looks, judge, rows, spot, known):
    """Why the bound of a spot does not fit by those of the parts' spots, or None."""
    for number, cut, dress in looks.holding(rows, spot):
        parts = part_spots(looks.shape, spot, number, cut)
        pairs = tuple([known.get(part, UNKNOWN) for part in parts])
        if None not in pairs:
            if UNKNOWN in pairs:
                return "unknown"
            maker = looks.shape.book.ways(spot[0])[number][0]
            why = _wrong_by(looks.shape.book, judge, maker, dress, pairs, known[spot])
            if why is not None:
                return why
    return None


def _wrong_by(book, judge, maker, dress, pairs, bound):
    """Why the bound does not fit by one look, or None."""
    if bound is None:
        return "none"
    formula = book.formula(judge, maker)
    lower, upper = formula_bounds(book, book.kinds(maker), formula, dress, pairs)
    if bound[0] > lower:
        return "low"
    return "high" if bound[1] < upper else None
