"""Whether code fits: whether it does all that is due, and nothing too early."""

from chooseonce.events import events_of
from chooseonce.looks import Looks
from chooseonce.spots import is_spot, part_spots, spots_of


class Progress:
    """What code has begun, and looked at, so far."""

    def __init__(self, shape, lengths):
        self.shape = shape
        self.lengths = lengths
        self._looks = Looks(shape)
        self._looked = {}

    def wrong(self, event):
        """Why this event may not come now, or None."""
        if event[0] == "look":
            return self._wrong_look(event[1], (event[2], event[3]))
        if not is_spot(self.shape, self.lengths, event[1]):
            return "spot"
        return "twice" if event[1] in self._looked else None

    def go_on(self, event):
        """Goes on by an event that may come now."""
        if event[0] == "new":
            self._looked[event[1]] = {}
        else:
            self._looked[event[1]][(event[2], event[3])] = True

    def is_done(self, spot):
        """Whether the spot was begun and all its cuts looked at."""
        return spot in self._looked and len(self._looked[spot]) == len(self._looks.every(spot))

    def _wrong_look(self, spot, look):
        if spot not in self._looked:
            return "new"
        if look not in self._looks.every(spot):
            return "cut"
        if look in self._looked[spot]:
            return "twice"
        parts = part_spots(self.shape, spot, look[0], look[1])
        return None if all([self.is_done(part) for part in parts]) else "early"


def code_fits(shape, lengths, code):
    """None if the code fits for these lengths, else the place of what is wrong, and why."""
    return wrong_event(shape, lengths, events_of(shape, lengths, code))


def wrong_event(shape, lengths, events):
    """The same by the events of the code."""
    progress = Progress(shape, lengths)
    for number, event in enumerate(events):
        why = progress.wrong(event)
        if why is not None:
            return (number, why)
        progress.go_on(event)
    done = [progress.is_done(spot) for spot in spots_of(shape, lengths)]
    return None if all(done) else (len(events), "left")
