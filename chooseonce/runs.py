"""Runs by plans and orders."""

from chooseonce.errors import BadOrder
from chooseonce.needing import order_fits
from chooseonce.planning import check_price
from chooseonce.rowlooks import checked_rows
from chooseonce.spots import spots_of
from chooseonce.working import Run


def run_plan(shape, ask, rows, plan, order):
    """The entry of the whole spot, the number of looks, and the kept entries in this order."""
    lengths = checked_rows(shape.book, rows)
    check_price(shape, lengths, plan)
    wrong = order_fits(shape, lengths, plan, order)
    if wrong is not None:
        raise BadOrder(wrong[0], wrong[1])
    return _finished(Run(shape, ask, rows, plan, ()), lengths, order)


def resumed(shape, ask, rows, plan, known):
    """The same in the order of spots, but some entries are known and not worked out."""
    lengths = checked_rows(shape.book, rows)
    check_price(shape, lengths, plan)
    kept = [spot for spot in spots_of(shape, lengths) if spot[0] in plan]
    return _finished(Run(shape, ask, rows, plan, known), lengths, kept)


def _finished(run, lengths, order):
    """What a run tells that works out all kept spots in this order."""
    run.keep(order)
    whole = run.whole(lengths)
    return (whole, run.looks, tuple([(spot, run.entries[spot]) for spot in order]))
