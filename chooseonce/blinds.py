"""Which asks are blind at a part: its value changes nothing of what they tell."""

from chooseonce.collecting import dress_with_products
from chooseonce.slopes import high_of, low_of


def is_blind(book, ask, maker, place):
    """Whether an ask that has no fault at the part is blind there."""
    how = ask[0]
    if how in ("then", "beside", "against"):
        return is_blind(book, ask[1], maker, place) and is_blind(book, ask[2], maker, place)
    if how == "each":
        return is_blind(book, ask[2], maker, place) and _is_unmoved(book, ask[1], maker, place)
    if how in ("least", "greatest", "names"):
        return _is_unmoved(book, ask[1], maker, place)
    if how == "best":
        return ask[1] == 1 and _is_unmoved(book, ask[2], maker, place)
    if how == "total":
        return _is_always_nought(book, ask[1], maker)
    return False


def _is_unmoved(book, judge, maker, place):
    """Whether the value of the part changes nothing of that by a judge of sort number or text."""
    formula = book.formula(judge, maker)
    if book.sort_of(judge) == "text":
        return ("part", place) not in formula
    return low_of(formula, place) == 0 and high_of(formula, place) == 0


def _is_always_nought(book, judge, maker):
    """Whether for each dress nothing is collected."""
    formula = book.formula(judge, maker)
    return dress_with_products(book, book.kinds(maker), formula) is None
