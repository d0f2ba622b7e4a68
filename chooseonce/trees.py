"""Trees: their heights, their nodes, and what stands at a path."""

from chooseonce.stretches import parts_due


def height_of(candidate):
    """1 for a tree without parts, else 1 more than the greatest height of its parts."""
    height = 0
    level = [candidate]
    while level:
        height += 1
        level = _parts_below(level)
    return height


def node_at(candidate, path):
    """The tree at the path."""
    tree = candidate
    for part in path:
        tree = tree[3][part]
    return tree


def nodes_of(book, candidate, stretch):
    """Triples (path, lot, stretch), rising by path, one for each node."""
    nodes = nodes_beneath(book, candidate, stretch)
    return tuple([(path, tree[0], place) for path, tree, place in nodes])


def nodes_beneath(book, candidate, stretch):
    """A list of triples (path, tree, stretch), rising by path, one for each node."""
    found = []
    due = [((), candidate, stretch)]
    while due:
        path, tree, place = due.pop()
        found.append((path, tree, place))
        below = []
        for at, told in enumerate(parts_due(_way_of(book, tree), place, tree[2])):
            below.append((path + (at,), tree[3][at], told[1]))
        # The last one is popped first, and paths are to rise.
        due.extend(below[::-1])
    return found


def replaced_at(candidate, path, other):
    """The tree with another one in the place of that at the path."""
    above = [node_at(candidate, path[:deep]) for deep in range(len(path))]
    tree = other
    for (lot, way, cut, parts), at in zip(above[::-1], path[::-1]):
        tree = (lot, way, cut, parts[:at] + (tree,) + parts[at + 1:])
    return tree


def _way_of(book, candidate):
    """The way of the root of a candidate."""
    return book.ways(candidate[0])[candidate[1]]


def _parts_below(trees):
    """A list of all parts of these trees."""
    parts = []
    for tree in trees:
        parts.extend(tree[3])
    return parts
