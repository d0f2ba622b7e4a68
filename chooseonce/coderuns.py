"""Running code."""

from chooseonce.codechecks import wrong_event
from chooseonce.errors import BadCode
from chooseonce.events import events_of
from chooseonce.gathering import plus_of
from chooseonce.planning import all_kept, check_price
from chooseonce.rowlooks import checked_rows
from chooseonce.spots import in_order, part_spots
from chooseonce.working import made_by_look


def run_code(shape, ask, rows, code):
    """The table that the code fills."""
    lengths = checked_rows(shape.book, rows)
    events = events_of(shape, lengths, code)
    wrong = wrong_event(shape, lengths, events)
    if wrong is not None:
        raise BadCode(wrong[0], wrong[1])
    check_price(shape, lengths, all_kept(shape))
    filled = _filled(shape, ask, rows, events)
    return tuple([(spot, filled[spot]) for spot in in_order(shape, filled)])


def _filled(shape, ask, rows, events):
    """A dict from the spots to the answers that they have behind all events."""
    filled = {}
    for event in events:
        spot = event[1]
        if event[0] == "new":
            filled[spot] = None
        else:
            look = (event[2], event[3])
            answers = [filled[part] for part in part_spots(shape, spot, look[0], look[1])]
            made = made_by_look(shape.book, ask, rows, spot, look, answers)
            filled[spot] = plus_of(ask, filled[spot], made)
    return filled
