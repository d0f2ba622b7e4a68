"""Values of a part by which an ask that is not blind tells one candidate from two."""

from chooseonce.askparts import asks_in
from chooseonce.blinds import is_blind
from chooseonce.choices import all_choices
from chooseonce.collecting import dress_with_products
from chooseonce.dresses import plain_dress
from chooseonce.flanks import flank_of
from chooseonce.nodevalues import judge_value
from chooseonce.slopes import high_of


def telling_pair(book, ask, maker, place):
    """(dress, others, kept, dropped) for an ask without a fault at the part, and not blind there.

    kept and dropped are dicts from judges to the values of two candidates of the part, the second
    one ahead of the first; the answers at the node to the first one alone and to both are unlike.
    dress and others are those of the node, as wrong_node tells them.
    """
    seeing = [one for one in asks_in(ask) if not is_blind(book, one, maker, place)]
    if seeing:
        return telling_pair(book, seeing[0], maker, place)
    if ask[0] == "total":
        return _telling_product(book, ask[1], maker, place)
    kept, dropped = _telling_values(book, ask, maker, place)
    return (plain_dress(book, book.kinds(maker)), {}, kept, dropped)


def small_values(book, judge, maker):
    """A list of tuples of values of the parts: no product formula is 0 for all of them.

    That is, none that is not 0 for all values, and in which no part stands more often in a product
    than in that of the judge: as a polynomial in each part it has fewer zeros than there are values.
    """
    counts = [0]
    for _, _, parts in book.formula(judge, maker):
        counts.extend([parts.count(place) for place in parts])
    return all_choices([list(range(max(counts) + 1)) for _ in book.parts(maker)])


def _telling_values(book, ask, maker, place):
    """The values of both candidates by the ask's own judge, if it has one that looks at them."""
    how = ask[0]
    if how in ("first", "spread"):
        # That there are two tells enough: the second one stands ahead, or counts, too.
        return ({}, {})
    judge = ask[1] if how == "each" else ask[-1]
    if book.sort_of(judge) == "text":
        return ({judge: ""}, {judge: "a"})
    formula = book.formula(judge, maker)
    side = "low" if high_of(formula, place) == 0 else "high"
    dress = plain_dress(book, book.kinds(maker))
    one, other = flank_of(book, book.kinds(maker), formula, place, dress, side)
    if how == "greatest":
        return ({judge: one}, {judge: other})
    return ({judge: other}, {judge: one})


def _telling_product(book, judge, maker, place):
    """A dress and values by which the node has another value than 0."""
    at = book.parts(maker).index(place)
    dress = dress_with_products(book, book.kinds(maker), book.formula(judge, maker))
    told = [values for values in small_values(book, judge, maker)
            if judge_value(book, judge, maker, dress, values) != 0]
    return (dress, {judge: told[0]}, {judge: told[0][at]}, {judge: told[0][at]})
