"""The answers by asks to bags of values: choosing once."""

from chooseonce.askparts import asks_in
from chooseonce.basicanswers import basic_answer
from chooseonce.fronts import kept_pairs


def answer_to(ask, bag):
    """The answer by the ask to a bag of values; None for the empty one."""
    how = ask[0]
    if not bag:
        return None
    if how == "against":
        return kept_pairs(ask, bag)
    if not asks_in(ask):
        return basic_answer(ask, bag)
    if how == "each":
        return _each_answer(ask[2], bag)
    first = answer_to(ask[1], [pair[0] for pair in bag])
    if how == "then":
        return (first, answer_to(ask[2], [pair[1] for pair in bag if pair[0] == first]))
    return (first, answer_to(ask[2], [pair[1] for pair in bag]))


def _each_answer(ask, bag):
    """Pairs (key, answer by the ask to the second halves of the pairs with this key), rising."""
    by_key = grouped(bag)
    return tuple([(key, answer_to(ask, by_key[key])) for key in sorted(by_key)])


def grouped(pairs):
    """A dict from the first halves to lists of the second halves that stand with them."""
    by_key = {}
    for key, value in pairs:
        by_key.setdefault(key, []).append(value)
    return by_key
