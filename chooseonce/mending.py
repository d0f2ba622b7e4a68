"""Asks that pass in the place of those that do not, and the last step from their answers."""

from chooseonce.basicanswers import basic_answer
from chooseonce.borders import passes
from chooseonce.fronts import kept_pairs
from chooseonce.shorts import short_of


def mended(book, ask):
    """The mended ask: the ask itself if it passes, else one that does and tells enough."""
    how = ask[0]
    if passes(book, ask):
        return ask
    if how == "each":
        return ("each", ask[1], mended(book, ask[2]))
    if how == "beside":
        return ("beside", mended(book, ask[1]), mended(book, ask[2]))
    if how == "then":
        return ("each", ask[1][1], mended(book, ask[2]))
    if how == "against":
        return ("each", ask[1][1], ("spread", ask[2][1]))
    return _mended_basic(book, ask)


def last_step(book, ask, answer):
    """The answer by the ask to a bag to which the mended ask has this answer."""
    how = ask[0]
    if answer is None or passes(book, ask):
        return answer
    if how == "each":
        return tuple([(key, last_step(book, ask[2], told)) for key, told in answer])
    if how == "beside":
        first = last_step(book, ask[1], answer[0])
        return (first, last_step(book, ask[2], answer[1]))
    if how == "then":
        # The keys rise, so the best one stands at an end.
        key, told = answer[0] if ask[1][0] == "least" else answer[-1]
        return (key, last_step(book, ask[2], told))
    if how == "against":
        return kept_pairs(ask, _unlike_pairs(answer))
    return _last_basic(ask, mended(book, ask), answer)


def _mended_basic(book, ask):
    """The mended ask of a basic one that does not pass."""
    how, judge = ask[0], ask[-1]
    many = ask[1] if how == "best" else 1
    ends = ("ends", many, judge)
    if how in ("least", "greatest", "best") and passes(book, ends):
        return ends
    return ("spread", judge)


def _last_basic(ask, mend, answer):
    """The answer by a basic ask from that by its mended one, which is ends or spread."""
    if mend[0] == "ends":
        return basic_answer(ask, answer)
    if ask[0] == "total":
        return sum([value * often for value, often in answer])
    return basic_answer(ask, short_of(mend, _few_of(ask, answer)))


def _few_of(ask, pairs):
    """Pairs of a spread, as few of each value as the ask looks at: values may stand very often."""
    if ask[0] == "within":
        top = pairs[0][0] + ask[1]
        return [pair for pair in pairs if pair[0] <= top]
    most = 2 * ask[1] if ask[0] in ("best", "ends") else 1
    return [(value, min(often, most)) for value, often in pairs]


def _unlike_pairs(keys):
    """A list of the unlike pairs of a key and a value of the spread that stands with it."""
    pairs = []
    for key, spread in keys:
        pairs.extend([(key, value) for value, _ in spread])
    return pairs
