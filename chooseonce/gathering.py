"""Plus: the answers to several bags put together."""

from chooseonce.answers import answer_to, grouped
from chooseonce.basicanswers import counted
from chooseonce.shorts import short_members


def plus_of(ask, one, other):
    """Plus of two answers by the ask, of which either may be None."""
    return gathered(ask, (one, other))


def gathered(ask, answers):
    """Plus of all answers of a tuple, None among them or not; None for ()."""
    told = [answer for answer in answers if answer is not None]
    if not told:
        return None
    if ask[0] == "each":
        return _gathered_keys(ask, told)
    if ask[0] == "then":
        return _gathered_firsts(ask, told)
    if ask[0] == "beside":
        first = gathered(ask[1], [answer[0] for answer in told])
        return (first, gathered(ask[2], [answer[1] for answer in told]))
    return _gathered_shorts(ask, told)


def _gathered_keys(ask, told):
    by_key = grouped(_members_of(ask, told))
    return tuple([(key, gathered(ask[2], by_key[key])) for key in sorted(by_key)])


def _gathered_firsts(ask, told):
    """The best of the first halves, with plus of the second halves that stand with it."""
    first = answer_to(ask[1], [answer[0] for answer in told])
    return (first, gathered(ask[2], [answer[1] for answer in told if answer[0] == first]))


def _gathered_shorts(ask, told):
    members = _members_of(ask, told)
    return counted(members) if ask[0] == "spread" else answer_to(ask, members)


def _members_of(ask, told):
    """A list of the members of all these answers."""
    members = []
    for answer in told:
        members.extend(short_members(ask, answer))
    return members
