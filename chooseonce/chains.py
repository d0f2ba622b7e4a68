"""Chains, rings and ranks."""

from chooseonce.boxes import plain_can_be_empty
from chooseonce.errors import Ring
from chooseonce.leastwidths import empty_makings
from chooseonce.living import Living


def chains_of(book):
    """All pairs of a lot and one to which a chain leads from it, by their places."""
    nexts = _nexts(Living(book))
    return tuple([(lot, other) for lot in nexts for other in nexts[lot]])


def ring_of(book):
    """A ring; None if there is none."""
    return ring_in(Living(book))


def ranks_of(book):
    """The ranks of the useful lots; Ring if there is a ring."""
    return tuple(ranks_in(Living(book)).values())


def ring_in(living):
    """A ring of what lives of a book, always the same; None if there is none."""
    nexts = _nexts(living)
    left = _on_to_rings(nexts)
    if not left:
        return None
    walk = [left[0]]
    while walk.count(walk[-1]) == 1:
        walk.append([other for other in nexts[walk[-1]] if other in left][0])
    return tuple(walk[walk.index(walk[-1]):-1])


def ranks_in(living):
    """A dict from each useful lot, in their sequence, to its rank; Ring if there is a ring."""
    ring = ring_in(living)
    if ring is not None:
        raise Ring(ring)
    nexts = _nexts(living)
    ranks = {}
    while len(ranks) < len(nexts):
        for lot in nexts:
            if all([other in ranks for other in nexts[lot]]):
                ranks[lot] = max([0] + [ranks[other] + 1 for other in nexts[lot]])
    return {lot: ranks[lot] for lot in nexts}


def chain_steps(living):
    """A list of the steps that are chains: all other pieces can be empty."""
    empty = empty_makings(living)
    found = []
    for step in living.steps:
        if all([_can_be_empty(piece, empty) for piece in living.others(step)]):
            found.append(step)
    return found


def _can_be_empty(piece, empty):
    if piece[0] == "lot":
        return piece[1] in empty
    return plain_can_be_empty(piece)


def _nexts(living):
    """A dict from each useful lot to a list of those to which chains lead from it, by place."""
    pairs = [(step[0], step[3]) for step in chain_steps(living)]
    lots = living.useful
    return {lot: [other for other in lots if (lot, other) in pairs] for lot in lots}


def _on_to_rings(nexts):
    """A list of the lots from which chains lead on without end."""
    left = list(nexts)
    kept = _leading_on(nexts, left)
    while len(kept) < len(left):
        left = kept
        kept = _leading_on(nexts, left)
    return left


def _leading_on(nexts, left):
    return [lot for lot in left if any([other in left for other in nexts[lot]])]
