"""Tables as papers."""

from chooseonce.gathering import gathered
from chooseonce.looks import Looks
from chooseonce.makes import make_of
from chooseonce.rowlooks import checked_rows
from chooseonce.spots import part_spots, spots_of


def table_fits(shape, ask, rows, table):
    """None if the table is the early one, as far as its own answers tell; else a place, and why."""
    spots = spots_of(shape, checked_rows(shape.book, rows))
    had = tuple([spot for spot, _ in table])
    for number in range(max(len(spots), len(had))):
        if spots[number:number + 1] != had[number:number + 1]:
            return (number, "spot")
    looks = Looks(shape)
    told = {spot: one for spot, one in table}
    for number, spot in enumerate(spots):
        if _answer_by(looks, ask, rows, spot, told) != told[spot]:
            return (number, "answer")
    return None


def _answer_by(looks, ask, rows, spot, told):
    """Plus of the makes of the spot's holding looks from the answers that are told."""
    shape = looks.shape
    made = []
    for way, cut, dress in looks.holding(rows, spot):
        maker = shape.book.ways(spot[0])[way][0]
        answers = tuple([told[part] for part in part_spots(shape, spot, way, cut)])
        made.append(make_of(shape.book, ask, maker, dress, answers, (spot[0], way, cut)))
    return gathered(ask, made)
