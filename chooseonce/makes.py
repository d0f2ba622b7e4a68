"""Make: the answer at a node from the answers for its parts."""

from chooseonce.answers import answer_to, grouped
from chooseonce.basicanswers import counted
from chooseonce.choices import all_choices
from chooseonce.gathering import gathered
from chooseonce.nodevalues import judge_value, node_value
from chooseonce.shorts import short_members


def make_of(book, ask, maker, dress, answers, head):
    """Make of the node with this maker and dress, from an answer for each part."""
    if any([answer is None for answer in answers]):
        return None
    if ask[0] == "each":
        return _made_keys(book, ask, maker, dress, answers, head)
    if ask[0] in ("then", "beside"):
        ones = _firsts_of(answers)
        others = _seconds_of(answers)
        first = make_of(book, ask[1], maker, dress, ones, head)
        return (first, make_of(book, ask[2], maker, dress, others, head))
    members = [short_members(ask, answer) for answer in answers]
    if ask[0] == "spread":
        return _made_spread(book, ask, maker, dress, all_choices(members))
    given = all_choices(members)
    return answer_to(ask, [node_value(book, ask, maker, dress, one, head) for one in given])


def _made_keys(book, ask, maker, dress, answers, head):
    """The answers that are made for all choices of pairs (key, answer), those with one key together."""
    made = []
    for choice in all_choices(answers):
        key = judge_value(book, ask[1], maker, dress, _firsts_of(choice))
        made.append((key, make_of(book, ask[2], maker, dress, _seconds_of(choice), head)))
    by_key = grouped(made)
    return tuple([(key, gathered(ask[2], by_key[key])) for key in sorted(by_key)])


def _made_spread(book, ask, maker, dress, choices):
    """The values for all choices of pairs (value, how often), each as often as its choices tell."""
    pairs = []
    for choice in choices:
        often = 1
        for one in _seconds_of(choice):
            often = often * one
        pairs.append((judge_value(book, ask[1], maker, dress, _firsts_of(choice)), often))
    return counted(pairs)


def _firsts_of(pairs):
    return tuple([pair[0] for pair in pairs])


def _seconds_of(pairs):
    return tuple([pair[1] for pair in pairs])
