"""Papers: a candidate with the best value, and bounds that show that none is better."""

from chooseonce.borders import used_border
from chooseonce.boundchecks import bounds_fit
from chooseonce.boundtables import bounded_looks, bounds_of
from chooseonce.errors import Refused
from chooseonce.looks import Looks
from chooseonce.rowlooks import checked_rows
from chooseonce.slopes import low_of
from chooseonce.spots import part_spots, whole_spot
from chooseonce.standing import stands
from chooseonce.stretches import whole_of
from chooseonce.treevalues import judged

# The places of the two numbers of a bound.
LOW = 0
HIGH = 1


def best_paper(shape, ask, rows):
    """A paper that fits, for a least or a greatest; Refused if the ends may not be chosen early."""
    lengths = checked_rows(shape.book, rows)
    judge = ask[1]
    border = used_border(shape, ("ends", 1, judge))
    if border is not None:
        raise Refused(border[1], border[2], border[3])
    bounds = bounds_of(shape, judge, rows)
    whole = whole_spot(shape, lengths)
    if whole is None:
        return (None, bounds)
    ends = _trees_at_ends(shape, judge, rows, bounds)
    return (ends[whole][_side_of(ask)], bounds)


def paper_fits(shape, ask, rows, paper):
    """Whether the paper shows that its candidate is the best one, or that there is none."""
    book = shape.book
    lengths = checked_rows(book, rows)
    candidate, bounds = paper
    if bounds_fit(shape, ask[1], rows, bounds) is not None:
        return False
    known = {spot: bound for spot, bound in bounds}
    whole = whole_spot(shape, lengths)
    if candidate is None:
        return whole is None or (whole in known and known[whole] is None)
    if not stands(book, rows, candidate, book.start, whole_of(lengths)):
        return False
    bound = known.get(whole)
    return bound is not None and bound[_side_of(ask)] == judged(book, ask[1], rows, candidate, whole[1])


def _side_of(ask):
    return LOW if ask[0] == "least" else HIGH


def _trees_at_ends(shape, judge, rows, bounds):
    """A dict from each spot to a pair: a candidate with its least value, one with its greatest.

    Both are None where there are no candidates. Bounds tell these values: each part is, by all
    formulas, nowhere with a fall or nowhere with a rise, so an end comes of ends of the parts.
    """
    looks = Looks(shape)
    known = {spot: bound for spot, bound in bounds}
    ends = {}
    for spot, bound in bounds:
        found = bounded_looks(looks, judge, rows, spot, known)
        ends[spot] = (None, None)
        if bound is not None:
            trees = []
            for side in (LOW, HIGH):
                number, cut = [told[:2] for told in found if told[2][side] == bound[side]][0]
                trees.append(_tree_at_end(shape, judge, spot, number, cut, side, ends))
            ends[spot] = tuple(trees)
    return ends


def _tree_at_end(shape, judge, spot, number, cut, side, ends):
    """The candidate by a look that has the least value, or the greatest one, by this look."""
    maker = shape.book.ways(spot[0])[number][0]
    formula = shape.book.formula(judge, maker)
    parts = []
    for place, part in zip(shape.book.parts(maker), part_spots(shape, spot, number, cut)):
        falls = low_of(formula, place) < 0
        parts.append(ends[part][1 - side if falls else side])
    return (spot[0], number, cut, tuple(parts))
