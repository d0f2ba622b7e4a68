"""The faults of asks: where they may not be chosen early."""

from chooseonce.askparts import asks_in
from chooseonce.blinds import is_blind
from chooseonce.collecting import dress_with_products
from chooseonce.slopes import bends, low_of


def fault_at(book, ask, maker, place):
    """The word of the ask's fault at the part, or None."""
    if not asks_in(ask):
        return _basic_fault(book, ask, maker, place)
    for one in asks_in(ask):
        fault = fault_at(book, one, maker, place)
        if fault is not None:
            return fault
    return "tie" if ask[0] == "then" and _ties(book, ask, maker, place) else None


def mixed_dress(book, judge, maker, place):
    """A dress for which a collected product does not have the place exactly once; or None."""
    formula = book.formula(judge, maker)
    odd = tuple([triple for triple in formula if triple[2].count(place) != 1])
    return dress_with_products(book, book.kinds(maker), odd)


def _basic_fault(book, ask, maker, place):
    how = ask[0]
    if how in ("spread", "names", "first"):
        return None
    if how == "total":
        return None if mixed_dress(book, ask[1], maker, place) is None else "mixed"
    formula = book.formula(ask[-1], maker)
    if how == "ends":
        return "bends" if bends(formula, place) else None
    low = low_of(formula, place)
    if low < 0:
        return "falls"
    return "flat" if how == "within" and low == 0 else None


def _ties(book, ask, maker, place):
    """Whether unlike values of the part may be alike by the first side, and not by the second."""
    lead = book.formula(ask[1][1], maker)
    return low_of(lead, place) == 0 and not is_blind(book, ask[2], maker, place)
