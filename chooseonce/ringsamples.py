"""What a ring does: as many candidates as one likes over the same rows."""

from chooseonce.chains import chain_steps, ring_in
from chooseonce.kinds import kinds_of, part_lots, part_places
from chooseonce.leastwidths import empty_makings
from chooseonce.living import Living
from chooseonce.samples import built_along, used_sample
from chooseonce.trees import node_at, replaced_at


def ring_shown(book, many):
    """Rows and many unlike candidates of the start lot over them whole; None without a ring."""
    living = Living(book)
    ring = ring_in(living)
    if ring is None:
        return None
    rows, tree, path = used_sample(book, ring[0])
    turns = [(step, _empty_parts(living, step)) for step in _steps_around(living, ring)]
    node = node_at(tree, path)
    trees = []
    for _ in range(many):
        trees.append(replaced_at(tree, path, node))
        # The last step leads back to the first lot, so it is the one just above the node.
        for step, parts in turns[::-1]:
            node = _above(book, step, parts, node)
    return (rows, tuple(trees))


def _steps_around(living, ring):
    """A list of the steps that lead, as chains, from each lot of the ring to the next."""
    steps = chain_steps(living)
    around = []
    for pair in zip(ring, ring[1:] + ring[:1]):
        around.append([step for step in steps if (step[0], step[3]) == pair][0])
    return around


def _empty_parts(living, step):
    """A list with a candidate of width 0 for each part of the step's way, None for the step's own."""
    book = living.book
    lot, number, place, _ = step
    way = book.ways(lot)[number]
    made = empty_makings(living)
    parts = []
    for other, part in zip(part_places(kinds_of(way)), part_lots(way)):
        parts.append(None if other == place else built_along(book, made, part)[1])
    return parts


def _above(book, step, parts, node):
    """The candidate that has the node as the step's part, and else nothing but empty pieces."""
    lot, number, place, _ = step
    many = len(book.ways(lot)[number][1])
    cut = tuple([_alone_at(place, many, sum(row)) for row in node[2]])
    return (lot, number, cut, tuple([node if part is None else part for part in parts]))


def _alone_at(place, many, width):
    """A tuple of many widths, all 0 but the one at this place."""
    return tuple([width if piece == place else 0 for piece in range(many)])
