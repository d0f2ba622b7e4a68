"""Candidates, answers, plus, make and early straight from [5] to [9], to compare with."""

from itertools import product

from chooseonce.nodevalues import node_value
from tests.listing import cut_holds, divided, placed, stretches_under, text_at
from tests.listing import value as tree_value
from tests.shapereckoning import empty, used_ways

BASIC = ("least", "greatest", "best", "ends", "within", "spread", "total", "names", "first")


def looks(program, rows, lot, stretch):
    """All (way, cut, spots of the parts) for which marks, letters and tests hold."""
    found = []
    for number, way in used_ways(program)[lot].items():
        for cut in product(*[divided(end - start, len(way[1])) for start, end in stretch]):
            if cut_holds(program, rows, way, stretch, cut):
                found.append((number, cut, [(piece[1], placed(stretch, cut, at))
                                            for at, piece in enumerate(way[1]) if piece[0] == "lot"]))
    return found


def all_listed(program, rows):
    """A dict to all candidates from each useful lot and each stretch; the program has no ring."""
    spots = {(lot, stretch): looks(program, rows, lot, stretch)
             for lot in used_ways(program) for stretch in stretches_under(rows)}
    found = {spot: [] for spot in spots}
    while True:
        # Each time around there are those of a greater height, too.
        more = {spot: sorted((spot[0], number, cut, chosen) for number, cut, parts in spots[spot]
                             for chosen in product(*[found[part] for part in parts]))
                for spot in spots}
        if more == found:
            return found
        found = more


def whole_bag(program, ask, rows):
    """The values of all candidates of the start lot over the whole."""
    whole = tuple((0, len(row)) for row in rows)
    trees = all_listed(program, rows).get((program[5], whole), [])
    return tuple(tree_value(program, ask, rows, tree, whole) for tree in trees)


def better(ask, one, other):
    return one < other if ask[0] == "least" else one > other


def against(ask, bag):
    pairs = set(bag)
    kept = [pair for pair in pairs if not any(
        other != pair and all(one == two or better(half, one, two)
                              for half, one, two in zip(ask[1:], other, pair))
        for other in pairs)]
    return tuple(sorted(kept, reverse=ask[1][0] == "greatest"))


def answer(ask, bag):
    """The answer to a bag by [7]."""
    if not bag:
        return None
    how, values = ask[0], sorted(bag)
    if how in ("least", "first"):
        return values[0]
    if how == "greatest":
        return values[-1]
    if how == "best":
        return tuple(values[:ask[1]])
    if how == "ends":
        n = ask[1]
        return tuple(values if len(values) <= 2 * n else values[:n] + values[len(values) - n:])
    if how == "within":
        return tuple(value for value in values if value <= values[0] + ask[1])
    if how == "spread":
        return tuple((value, values.count(value)) for value in sorted(set(values)))
    if how == "total":
        return sum(values)
    if how == "names":
        return tuple(sorted(set(values)))
    if how == "against":
        return against(ask, bag)
    firsts = [pair[0] for pair in bag]
    if how == "then":
        x = answer(ask[1], firsts)
        return (x, answer(ask[2], [pair[1] for pair in bag if pair[0] == x]))
    if how == "each":
        return tuple((key, answer(ask[2], [pair[1] for pair in bag if pair[0] == key]))
                     for key in sorted(set(firsts)))
    return (answer(ask[1], firsts), answer(ask[2], [pair[1] for pair in bag]))


def short(ask, told):
    """The short of an answer by [8]."""
    if ask[0] == "spread":
        return tuple(value for value, often in told for _ in range(often))
    return (told,) if ask[0] in ("least", "greatest", "total", "first") else told


def plus(ask, one, other):
    """Plus by [8]."""
    if one is None or other is None:
        return other if one is None else one
    how = ask[0]
    if how in BASIC or how == "against":
        return answer(ask, short(ask, one) + short(ask, other))
    if how == "then":
        if one[0] != other[0]:
            return one if better(ask[1], one[0], other[0]) else other
        return (one[0], plus(ask[2], one[1], other[1]))
    if how == "each":
        ones, others = dict(one), dict(other)
        return tuple((key, plus(ask[2], ones.get(key), others.get(key)))
                     for key in sorted(set(ones) | set(others)))
    return (plus(ask[1], one[0], other[0]), plus(ask[2], one[1], other[1]))


def make(book, ask, maker, dress, answers, head):
    """Make by [8]."""
    if None in answers:
        return None
    how = ask[0]
    if how in BASIC or how == "against":
        chosen = product(*[short(ask, told) for told in answers])
        return answer(ask, tuple(node_value(book, ask, maker, dress, given, head) for given in chosen))
    if how == "each":
        told = None
        for pairs in product(*answers):
            keys, below = tuple(pair[0] for pair in pairs), tuple(pair[1] for pair in pairs)
            # The value by a basic ask of the same judge is the value by the judge.
            key = node_value(book, ("spread", ask[1]), maker, dress, keys, None)
            told = plus(ask, told, ((key, make(book, ask[2], maker, dress, below, head)),))
        return told
    halves = [tuple(told[half] for told in answers) for half in (0, 1)]
    return tuple(make(book, one, maker, dress, half, head) for one, half in zip(ask[1:], halves))


def dress_at(rows, way, stretch, cut):
    return tuple(
        None if piece[0] == "lot" else tuple(text_at(rows, stretch, cut, (at, row))
                                             for row in range(len(rows)))
        for at, piece in enumerate(way[1]))


def entry(book, ask, rows, lot, stretch, known):
    """The entry of a spot by [9]; known is a dict of those that are known, at first empty."""
    spot = (lot, stretch)
    if spot not in known:
        told = None
        for number, cut, parts in looks(book.program, rows, lot, stretch):
            if all(may_stand(book.program, part) for part in parts):
                way = book.ways(lot)[number]
                answers = tuple(entry(book, ask, rows, *part, known) for part in parts)
                told = plus(ask, told, make(book, ask, way[0], dress_at(rows, way, stretch, cut),
                                            answers, (lot, number, cut)))
        known[spot] = told
    return known[spot]


def may_stand(program, spot):
    """Not if the spot has no width, and its lot is not empty."""
    lot, stretch = spot
    return lot in empty(program) or any(start < end for start, end in stretch)


def early(book, ask, rows):
    """Early by [9], for a program without a ring."""
    if book.start not in used_ways(book.program):
        return None
    whole = (book.start, tuple((0, len(row)) for row in rows))
    return entry(book, ask, rows, *whole, {}) if may_stand(book.program, whole) else None
