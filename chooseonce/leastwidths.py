"""The least widths of lots, and which lots are empty."""

from chooseonce.boxes import mark_box, plain_can_be_empty
from chooseonce.kinds import part_lots
from chooseonce.living import Living
from chooseonce.making import made_by


def least_widths(book, row):
    """The least widths on the row, for the useful lots."""
    living = Living(book)
    known = leasts_in(living, row)
    return tuple([known[lot] for lot in living.useful])


def empty_lots(book):
    """The useful lots that are empty, in the program's sequence."""
    made = empty_makings(Living(book))
    return tuple([lot for lot in book.lots() if lot in made])


def leasts_in(living, row):
    """A dict from each useful lot to its least width on the row."""
    known = {}
    told = _leasts_by(living, row, known)
    while told != known:
        known = told
        told = _leasts_by(living, row, known)
    return known


def empty_makings(living):
    """As makings, of the useful lots that are empty: each with a way of empty pieces alone."""
    ways = {}
    for lot in living.useful:
        ways[lot] = []
        for number in living.live_by_lot[lot]:
            way = living.book.ways(lot)[number]
            if all([plain_can_be_empty(piece) for piece in way[1] if piece[0] == "plain"]):
                ways[lot].append((number, part_lots(way)))
    return made_by(ways)


def _leasts_by(living, row, known):
    """The least widths by those ways alone the lots of whose parts have known ones."""
    found = {}
    for lot in living.useful:
        sums = []
        for pieces in living.pieces(lot):
            if all([piece[0] == "plain" or piece[1] in known for piece in pieces]):
                sums.append(sum([_least_of(piece, row, known) for piece in pieces]))
        if sums:
            found[lot] = min(sums)
    return found


def _least_of(piece, row, known):
    return known[piece[1]] if piece[0] == "lot" else mark_box(piece[1][row])[0]
