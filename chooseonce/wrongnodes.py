"""Nodes by which an ask with a fault, chosen early, goes wrong."""

from chooseonce.dresses import plain_dress
from chooseonce.faults import mixed_dress
from chooseonce.flanks import flank_of
from chooseonce.nodevalues import judge_value
from chooseonce.slopes import low_of
from chooseonce.tellingpairs import small_values, telling_pair


def wrong_node(book, border):
    """A triple (dress, others, bag) for the border's maker by which its ask goes wrong.

    bag is a list of candidates of the border's part, in their order, each told by a dict from
    judges to its values. others is a dict from judges to a tuple of values, one for each part of
    the maker, for one candidate of each part but the border's. A value that is not told is
    nought: 0, or "" by a judge of sort "text".
    """
    ask, maker, place, fault = border
    if fault == "mixed":
        return _mixed_node(book, ask[1], maker, place)
    if fault == "tie":
        return _tied_node(book, ask, maker, place)
    judge = ask[-1] if ask[0] != "against" else _falling_judge(book, ask, maker, place)
    tell = _bent_values if fault == "bends" else _fallen_values
    bag = [{judge: value} for value in tell(book, ask, judge, maker, place)]
    return (plain_dress(book, book.kinds(maker)), {}, bag)


def _falling_judge(book, ask, maker, place):
    """The first judge of an against by which values fall."""
    judges = [ask[1][1], ask[2][1]]
    return [one for one in judges if low_of(book.formula(one, maker), place) < 0][0]


def _fallen_values(book, ask, judge, maker, place):
    """Values such that the ask leaves out one of which the node would have to tell."""
    one, other = _flank(book, judge, maker, place, "low")
    if ask[0] == "best":
        return [one] * ask[1] + [other]
    if ask[0] == "within":
        # They must be further apart than the ask lets, and all between them on the flank, too.
        return [one - ask[1], other] if one < 0 else [one, other + ask[1]]
    return [one, other]


def _bent_values(book, ask, judge, maker, place):
    """Values such that ends leaves out the middle one, by which the node has an end of its own."""
    sides = ("low", "high") if book.formula(judge, maker)[0] == "max" else ("high", "low")
    left, middle = _flank(book, judge, maker, place, sides[0])
    right = _flank(book, judge, maker, place, sides[1])[0]
    inner = _value_with(book, judge, maker, place, middle)
    outer = _value_with(book, judge, maker, place, right)
    # Each step outward changes the value by at least 1, so here it is beyond that of the middle.
    right += abs(inner - outer) + 1
    return [left] * ask[1] + [middle] + [right] * ask[1]


def _mixed_node(book, judge, maker, place):
    """A node with a value that is not twice as much if that of the part is."""
    dress = mixed_dress(book, judge, maker, place)
    at = book.parts(maker).index(place)
    found = []
    for values in small_values(book, judge, maker):
        twice = values[:at] + (2 * values[at],) + values[at + 1:]
        once_told = judge_value(book, judge, maker, dress, values)
        if judge_value(book, judge, maker, dress, twice) != 2 * once_told:
            found.append(values)
    bag = [{judge: found[0][at]}, {judge: found[0][at]}]
    return (dress, {judge: found[0]}, bag)


def _tied_node(book, ask, maker, place):
    """A node that is alike by the first side for two candidates of which it leaves out one."""
    dress, others, kept, dropped = telling_pair(book, ask[2], maker, place)
    judge = ask[1][1]
    formula = book.formula(judge, maker)
    one, other = flank_of(book, book.kinds(maker), formula, place, dress, "low")
    better, worse = (one, other) if ask[1][0] == "least" else (other, one)
    return (dress, others, [{**dropped, judge: worse}, {**kept, judge: better}])


def _flank(book, judge, maker, place, side):
    """The flank of the judge's formula for the plain dress."""
    kinds = book.kinds(maker)
    return flank_of(book, kinds, book.formula(judge, maker), place, plain_dress(book, kinds), side)


def _value_with(book, judge, maker, place, number):
    """The value for the plain dress if that of the part is this number, all others 0."""
    given = tuple([number if part == place else 0 for part in book.parts(maker)])
    return judge_value(book, judge, maker, plain_dress(book, book.kinds(maker)), given)
