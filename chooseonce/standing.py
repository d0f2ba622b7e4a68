"""Whether a tree is a candidate, and where it goes wrong."""

from chooseonce.boxes import mark_box
from chooseonce.dresses import dress_of, letters_hold, tests_hold
from chooseonce.kinds import kinds_of, part_places
from chooseonce.stretches import parts_due, widths_of


def wrong_at(book, rows, candidate, lot, stretch):
    """None if the tree is a candidate of the lot over the stretch, else (path, why)."""
    due = [((), candidate, lot, stretch)]
    while due:
        path, tree, name, place = due.pop()
        why = _wrong_here(book, rows, tree, name, place)
        if why is not None:
            return (path, why)
        below = []
        for at, told in enumerate(parts_due(book.ways(name)[tree[1]], place, tree[2])):
            below.append((path + (at,), tree[3][at], told[0], told[1]))
        # The last one is popped first, and the first part is to be looked at first.
        due.extend(below[::-1])
    return None


def stands(book, rows, candidate, lot, stretch):
    """Whether the tree is a candidate of the lot over the stretch."""
    return wrong_at(book, rows, candidate, lot, stretch) is None


def _wrong_here(book, rows, tree, lot, stretch):
    """What is wrong with the root of the tree, or None."""
    if tree[0] != lot:
        return "lot"
    ways = book.ways(lot)
    if not _is_number(tree[1]) or tree[1] >= len(ways):
        return "way"
    way = ways[tree[1]]
    if not _is_cut(tree[2], way, stretch):
        return "cut"
    if not _widths_fit(way, tree[2]):
        return "width"
    dress = dress_of(rows, way, stretch, tree[2])
    if not letters_hold(book, way, dress):
        return "sign"
    if not tests_hold(book, way, dress):
        return "test"
    if len(tree[3]) != len(part_places(kinds_of(way))):
        return "parts"
    return None


def _is_number(value):
    return isinstance(value, int) and not isinstance(value, bool) and value >= 0


def _is_cut(cut, way, stretch):
    """Whether it is a cut of the way over the stretch."""
    if not isinstance(cut, tuple) or len(cut) != len(stretch):
        return False
    many = len(way[1])
    return all([_adds_up(row, many, width) for row, width in zip(cut, widths_of(stretch))])


def _adds_up(widths, many, width):
    """Whether widths is a tuple of this many numbers that add up to width."""
    if not isinstance(widths, tuple) or len(widths) != many:
        return False
    return all([_is_number(one) for one in widths]) and sum(widths) == width


def _widths_fit(way, cut):
    """Whether each plain piece has on each row a width that its mark lets."""
    for row, widths in enumerate(cut):
        for piece, width in zip(way[1], widths):
            if piece[0] == "plain" and not _lets(piece[1][row], width):
                return False
    return True


def _lets(mark, width):
    least, most = mark_box(mark)
    return least <= width and (most is None or width <= most)
