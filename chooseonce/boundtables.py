"""Bounds of all spots: between which numbers the values of their candidates lie."""

from chooseonce.boxbounds import formula_bounds
from chooseonce.looks import Looks
from chooseonce.rowlooks import checked_rows
from chooseonce.spots import part_spots, spots_of


def bounds_of(shape, judge, rows):
    """A pair of a spot and its bound for each spot, in their order."""
    lengths = checked_rows(shape.book, rows)
    looks = Looks(shape)
    known = {}
    for spot in spots_of(shape, lengths):
        pairs = [pair for _, _, pair in bounded_looks(looks, judge, rows, spot, known)]
        known[spot] = None
        if pairs:
            known[spot] = (min([lower for lower, _ in pairs]), max([upper for _, upper in pairs]))
    return tuple([(spot, known[spot]) for spot in known])


def bounded_looks(looks, judge, rows, spot, known):
    """A list of triples (way, cut, bound), one for each holding look without a part's bound None.

    known has the bounds of the parts' spots.
    """
    book = looks.shape.book
    found = []
    for number, cut, dress in looks.holding(rows, spot):
        pairs = [known[part] for part in part_spots(looks.shape, spot, number, cut)]
        if None not in pairs:
            maker = book.ways(spot[0])[number][0]
            formula = book.formula(judge, maker)
            bound = formula_bounds(book, book.kinds(maker), formula, dress, tuple(pairs))
            found.append((number, cut, bound))
    return found
