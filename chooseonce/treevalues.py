"""The values of whole candidates."""

from chooseonce.dresses import dress_of
from chooseonce.nodevalues import node_value
from chooseonce.trees import nodes_beneath


def judged(book, judge, rows, candidate, stretch):
    """The value by the judge of a candidate over the stretch."""
    # The value by any basic ask is that by its judge, whatever the sort.
    return value(book, ("spread", judge), rows, candidate, stretch)


def value(book, ask, rows, candidate, stretch):
    """The value by the ask of a candidate over the stretch."""
    values = []
    for _, tree, place in nodes_beneath(book, candidate, stretch)[::-1]:
        # All beneath a node stands behind it, so its first part was the last one worked out.
        given = tuple([values.pop() for _ in tree[3]])
        values.append(_root_value(book, ask, rows, tree, place, given))
    return values[0]


def _root_value(book, ask, rows, tree, stretch, given):
    """The value of the root alone, its parts having the values given."""
    lot, number, cut, _ = tree
    way = book.ways(lot)[number]
    dress = dress_of(rows, way, stretch, cut)
    return node_value(book, ask, way[0], dress, given, (lot, number, cut))
