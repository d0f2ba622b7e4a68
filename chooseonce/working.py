"""Runs as they go on: working out spots and counting the looks."""

from chooseonce.dresses import dress_of, holds
from chooseonce.gathering import gathered
from chooseonce.looks import Looks
from chooseonce.makes import make_of
from chooseonce.spots import part_spots, whole_spot


class Run:
    """A run by a plan; entries tells those of kept spots, looks is the number of looks so far."""

    def __init__(self, shape, ask, rows, plan, known):
        self.shape = shape
        self.ask = ask
        self.rows = rows
        self.plan = plan
        self.entries = {spot: entry for spot, entry in known}
        self.looks = 0
        self._found = Looks(shape)

    def keep(self, spots):
        """Works out those of these kept spots whose entries are not known, and keeps them."""
        for spot in spots:
            if spot not in self.entries:
                self.entries[spot] = self.work_out(spot)

    def work_out(self, spot):
        """The entry of a spot, from the kept entries; spots that are not kept are worked out anew."""
        made = []
        for look in self._found.every(spot):
            self.looks += 1
            answers = []
            for part in part_spots(self.shape, spot, look[0], look[1]):
                kept = part[0] in self.plan
                answers.append(self.entries[part] if kept else self.work_out(part))
            made.append(made_by_look(self.shape.book, self.ask, self.rows, spot, look, answers))
        return gathered(self.ask, made)

    def whole(self, lengths):
        """The entry of the whole spot, None if there is none."""
        spot = whole_spot(self.shape, lengths)
        if spot is None:
            return None
        return self.entries[spot] if spot[0] in self.plan else self.work_out(spot)


def made_by_look(book, ask, rows, spot, look, answers):
    """Make of a look from an answer for each part; None if letters and tests do not hold."""
    if None in answers:
        return None
    number, cut = look
    way = book.ways(spot[0])[number]
    dress = dress_of(rows, way, spot[1], cut)
    if not holds(book, way, dress):
        return None
    return make_of(book, ask, way[0], dress, tuple(answers), (spot[0], number, cut))
