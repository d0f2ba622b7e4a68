"""Shapes straight from [9], to compare with: by trying all signs, and by listing all widths."""

from itertools import product

# Widths from here on are counted as one: no drawn lot has such a greatest width.
CAP = 120


def sign_refs(way):
    return [(at, row) for at, piece in enumerate(way[1]) if piece[0] == "plain"
            for row, mark in enumerate(piece[1]) if mark[0] == "sign"]


def signings(program, way):
    """All signings of the way, each as a tuple of pairs (ref, sign)."""
    refs = sign_refs(way)
    letters = [way[1][at][1][row][1] or program[1] for at, row in refs]
    pairs = dict(program[3])
    found = []
    for signs in product(*letters):
        told = dict(zip(refs, signs))
        if all(told[one] + told[other] in pairs[name] for name, one, other in way[2]):
            found.append(tuple(told.items()))
    return found


def part_lots(way):
    return [piece[1] for piece in way[1] if piece[0] == "lot"]


def made(program):
    """The set of the made lots."""
    found = set()
    while True:
        more = {lot for lot, ways in program[6]
                if any(signings(program, way) and found.issuperset(part_lots(way)) for way in ways)}
        if more == found:
            return found
        found = more


def live(program):
    """A dict from all lots to a dict from the places of their live ways to these ways."""
    known = made(program)
    return {lot: {number: way for number, way in enumerate(ways)
                  if signings(program, way) and known.issuperset(part_lots(way))}
            for lot, ways in program[6]}


def useful(program):
    """The useful lots, in the program's sequence."""
    ways, found = live(program), set()
    due = [program[5]] if program[5] in made(program) else []
    while due:
        lot = due.pop()
        if lot not in found:
            found.add(lot)
            for way in ways[lot].values():
                due.extend(part_lots(way))
    return tuple(lot for lot, _ in program[6] if lot in found)


def used_ways(program):
    """A dict from the useful lots to their live ways."""
    ways = live(program)
    return {lot: ways[lot] for lot in useful(program)}


def added(one, other):
    """All sums of a number of one set and a number of the other; sets are the bits of integers."""
    told = 0
    for bit in range(CAP + 1):
        if one >> bit & 1:
            told |= other << bit
    low = told & ((1 << CAP) - 1)
    return low | (1 << CAP if told >> CAP else 0)


def marks_set(mark):
    """All widths of a mark."""
    if mark[0] == "sign":
        return 2
    if mark[0] == "none":
        return 1
    most = CAP if mark[2] is None else mark[2]
    return sum(1 << width for width in range(mark[1], most + 1))


def set_of(pieces, row, known):
    """All widths of these pieces together."""
    told = 1
    for piece in pieces:
        told = added(told, known[piece[1]] if piece[0] == "lot" else marks_set(piece[1][row]))
    return told


def width_sets(program, row):
    """A dict from the useful lots to all their widths on the row."""
    ways = used_ways(program)
    known = {lot: 0 for lot in ways}
    while True:
        more = {}
        for lot in ways:
            more[lot] = 0
            for way in ways[lot].values():
                more[lot] |= set_of(way[1], row, known)
        if more == known:
            return known
        known = more


def ends_of(told):
    """The least number of a set, and the greatest, None if there is none."""
    greatest = told.bit_length() - 1
    return ((told & -told).bit_length() - 1, None if greatest == CAP else greatest)


def widths(program, row):
    """A dict from the useful lots to their least and greatest width."""
    return {lot: ends_of(told) for lot, told in width_sets(program, row).items()}


def margins(program, row):
    """A dict from the useful lots to their margins."""
    ways, known = used_ways(program), width_sets(program, row)
    found = {}
    for side in (0, 1):
        sets = {lot: int(lot == program[5]) for lot in ways}
        while True:
            more = dict(sets)
            for lot in ways:
                for way in ways[lot].values():
                    for at, piece in enumerate(way[1]):
                        if piece[0] == "lot":
                            beside = way[1][at + 1:] if side else way[1][:at]
                            more[piece[1]] |= added(sets[lot], set_of(beside, row, known))
            if more == sets:
                break
            sets = more
        for lot in ways:
            found[lot] = found.get(lot, ()) + ends_of(sets[lot])
    return found


def empty(program):
    """The set of the useful lots that are empty."""
    ways, found = used_ways(program), set()
    while True:
        more = {lot for lot in ways if any(all(piece_can_be_empty(piece, found) for piece in way[1])
                                           for way in ways[lot].values())}
        if more == found:
            return found
        found = more


def piece_can_be_empty(piece, lots):
    if piece[0] == "lot":
        return piece[1] in lots
    return all(marks_set(mark) & 1 for mark in piece[1])


def chains(program):
    """The set of all chains, as pairs."""
    ways, lots = used_ways(program), empty(program)
    found = set()
    for lot in ways:
        for way in ways[lot].values():
            for at, piece in enumerate(way[1]):
                others = way[1][:at] + way[1][at + 1:]
                if piece[0] == "lot" and all(piece_can_be_empty(one, lots) for one in others):
                    found.add((lot, piece[1]))
    return found


def ranks(program):
    """A dict from the useful lots to their ranks; None if there is a ring."""
    pairs = chains(program)
    found = {lot: 0 for lot in useful(program)}
    for _ in range(len(found) + 1):
        more = {lot: max([0] + [found[other] + 1 for one, other in pairs if one == lot])
                for lot in found}
        if more == found:
            return found
        found = more
    return None
