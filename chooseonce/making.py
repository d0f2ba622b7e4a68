"""Made and useful lots, and live ways."""

from chooseonce.kinds import part_lots
from chooseonce.signing import is_signed


def made_lots(book):
    """The made lots, in the program's sequence."""
    made = makings(book)
    return tuple([lot for lot in book.lots() if lot in made])


def useful_lots(book):
    """The useful lots, in the program's sequence."""
    return tuple(live_of_useful(book))


def live_ways(book, lot):
    """The places of the live ways among all ways of any lot, rising."""
    return _live_of_all(book)[lot]


def live_of_useful(book):
    """A dict from each useful lot, in the program's sequence, to the places of its live ways."""
    live = _live_of_all(book)
    # A lot is made exactly if one of its ways is live.
    if not live[book.start]:
        return {}
    useful = reached([book.start], _part_lots_by_lot(book, live))
    return {lot: live[lot] for lot in live if lot in useful}


def makings(book):
    """A dict from each made lot to a way, such that the lots of its parts stand ahead of it."""
    return made_by(_signed_of_all(book))


def made_by(ways):
    """The same by some ways alone: a dict from lots to lists of pairs (place, lots of its parts)."""
    made = {}
    fresh = _made_next(ways, made)
    while fresh:
        made.update(fresh)
        fresh = _made_next(ways, made)
    return made


def reached(lots, nexts):
    """A list of these lots and all to which nexts, a dict from lots to lots, lead from them."""
    found = []
    due = list(lots)
    while due:
        lot = due.pop()
        if lot not in found:
            found.append(lot)
            due.extend(nexts[lot])
    return found


def _made_next(ways, made):
    """The way of each lot that is not made, but by lots that are, and by this way."""
    fresh = {}
    for lot in ways:
        numbers = [number for number, lots in ways[lot] if all([one in made for one in lots])]
        if numbers and lot not in made:
            fresh[lot] = numbers[0]
    return fresh


def _signed_of_all(book):
    """A dict from each lot to a list of pairs (place, lots of its parts), one for each signed way."""
    signed = {}
    for lot in book.lots():
        ways = list(enumerate(book.ways(lot)))
        signed[lot] = [(number, part_lots(way)) for number, way in ways if is_signed(book, way)]
    return signed


def _live_of_all(book):
    """A dict from each lot, in the program's sequence, to the places of its live ways."""
    signed = _signed_of_all(book)
    made = made_by(signed)
    live = {}
    for lot in signed:
        live[lot] = tuple([
            number for number, lots in signed[lot] if all([one in made for one in lots])
        ])
    return live


def _part_lots_by_lot(book, live):
    """A dict from each lot to a list of the lots of the parts of its live ways."""
    nexts = {}
    for lot in live:
        nexts[lot] = []
        for number in live[lot]:
            nexts[lot].extend(part_lots(book.ways(lot)[number]))
    return nexts
