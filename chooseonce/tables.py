"""Early tables, and what tables tell."""

from chooseonce.planning import all_kept
from chooseonce.runs import resumed


def early_table(shape, ask, rows):
    """A pair of a spot and its entry for each spot, in their order."""
    return resumed(shape, ask, rows, all_kept(shape), ())[2]


def early(shape, ask, rows):
    """The entry of the whole spot, None if there is none."""
    return resumed(shape, ask, rows, all_kept(shape), ())[0]


def entry_of(shape, table, spot):
    """The answer that the table tells for the spot, None if it does not have it."""
    for one, told in table:
        if one == spot:
            return told
    return None
