"""Entries that are still right behind an edit."""

from chooseonce.edits import edited, old_stretch
from chooseonce.rowlooks import checked_rows
from chooseonce.spots import is_spot, spots_of


def carried(shape, rows, edit, table):
    """The carried spots whose old spots are in the table, with the answers there, in order."""
    ahead = checked_rows(shape.book, rows)
    behind = checked_rows(shape.book, edited(shape.book, rows, edit))
    told = {spot: one for spot, one in table}
    found = []
    for lot, stretch in spots_of(shape, behind):
        old = (lot, old_stretch(stretch, edit))
        if old[1] is not None and is_spot(shape, ahead, old) and old in told:
            found.append(((lot, stretch), told[old]))
    return tuple(found)
