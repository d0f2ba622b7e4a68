"""The value of one node from those of its parts."""

from chooseonce.askparts import asks_in
from chooseonce.formvalues import number_value, product_value, text_value


def judge_value(book, judge, maker, dress, given):
    """The value by the judge of a node whose parts have the values given."""
    kinds = book.kinds(maker)
    formula = book.formula(judge, maker)
    sort = book.sort_of(judge)
    if sort == "number":
        return number_value(book, kinds, formula, dress, given)
    if sort == "product":
        return product_value(book, kinds, formula, dress, given)
    return text_value(book, kinds, formula, dress, given)


def node_value(book, ask, maker, dress, given, head):
    """The value by the ask of a node whose parts have the values given."""
    if ask[0] == "first":
        lot, way, cut = head
        return (lot, way, cut, given)
    if not asks_in(ask):
        return judge_value(book, ask[-1], maker, dress, given)
    ones = tuple([pair[0] for pair in given])
    others = tuple([pair[1] for pair in given])
    if ask[0] == "each":
        one = judge_value(book, ask[1], maker, dress, ones)
    else:
        one = node_value(book, ask[1], maker, dress, ones, head)
    return (one, node_value(book, ask[2], maker, dress, others, head))
