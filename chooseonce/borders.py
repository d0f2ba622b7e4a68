"""The border of an ask: the first fault that keeps it from being chosen early."""

from chooseonce.askparts import asks_in
from chooseonce.faults import fault_at


def border_of(book, ask):
    """The border: None, or (ask, maker, place, fault), the ask being this one or one in it."""
    return _border_at(book, ask, _places_of(book, book.makers()))


def passes(book, ask):
    """Whether the ask has no border."""
    return border_of(book, ask) is None


def used_border(shape, ask):
    """The border if only makers of live ways of useful lots are looked at."""
    book = shape.book
    used = []
    for lot in shape.useful:
        used.extend([book.ways(lot)[number][0] for number in shape.live(lot)])
    return _border_at(book, ask, _places_of(book, [one for one in book.makers() if one in used]))


def _places_of(book, makers):
    """A list of pairs (maker, place) of all parts of these makers."""
    places = []
    for maker in makers:
        places.extend([(maker, place) for place in book.parts(maker)])
    return places


def _border_at(book, ask, places):
    """The border of the ask, looking at these parts alone."""
    how = ask[0]
    if how in ("each", "beside", "then"):
        for one in asks_in(ask):
            border = _border_at(book, one, places)
            if border is not None:
                return border
    if how in ("each", "beside"):
        return None
    for maker, place in places:
        fault = fault_at(book, ask, maker, place)
        if fault is not None:
            return (ask, maker, place, fault)
    return None
