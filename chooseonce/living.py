"""What lives of a program: its useful lots and their live ways, all found at once."""

from chooseonce.kinds import kinds_of, part_places
from chooseonce.making import live_of_useful, reached


class Living:
    """The useful lots of a book, their live ways, and the steps from lot to lot.

    useful: the useful lots; live_by_lot: a dict from them to the places of their live ways;
    steps: a tuple of quadruples (lot, way, place, lot of the part), as steps_of tells them.
    """

    def __init__(self, book):
        self.book = book
        self.live_by_lot = live_of_useful(book)
        self.useful = tuple(self.live_by_lot)
        self.steps = tuple(_steps(book, self.live_by_lot))
        self._nexts = {lot: [] for lot in self.useful}
        for lot, _, _, part in self.steps:
            self._nexts[lot].append(part)

    def pieces(self, lot):
        """A list with the pieces of each live way of the lot."""
        return [self.book.ways(lot)[number][1] for number in self.live_by_lot[lot]]

    def others(self, step):
        """The pieces of the step's way but that of its part."""
        return self.ahead(step) + self.behind(step)

    def ahead(self, step):
        """The pieces of the step's way ahead of its part."""
        lot, number, place, _ = step
        return self.book.ways(lot)[number][1][:place]

    def behind(self, step):
        """The pieces of the step's way behind its part."""
        lot, number, place, _ = step
        return self.book.ways(lot)[number][1][place + 1:]

    def comings(self, lot):
        """A list of the lots to which any number of steps lead from the lot."""
        return reached([lot], self._nexts)


def _steps(book, live):
    """A list of all steps, by lot, way and place."""
    steps = []
    for lot in live:
        for number in live[lot]:
            way = book.ways(lot)[number]
            places = part_places(kinds_of(way))
            steps.extend([(lot, number, place, way[1][place][1]) for place in places])
    return steps
