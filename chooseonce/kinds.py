"""The kinds of a way, and which places they have."""


def kinds_of(way):
    """The kinds of a way: for each piece "lot", or the first words of its marks."""
    return tuple([_kind_of(piece) for piece in way[1]])


def part_places(kinds):
    """The places of the parts, rising."""
    return tuple([place for place, kind in enumerate(kinds) if kind == "lot"])


def part_lots(way):
    """The lots of the parts of a way, in their sequence."""
    return tuple([piece[1] for piece in way[1] if piece[0] == "lot"])


def sign_places(kinds):
    """The refs to all marks "sign", by piece, then row."""
    return _refs_to(kinds, ("sign",))


def run_places(kinds):
    """The refs to all marks "run", by piece, then row."""
    return _refs_to(kinds, ("run",))


def mark_places(kinds):
    """The refs to all marks, by piece, then row."""
    return _refs_to(kinds, ("sign", "none", "run"))


def kinds_by_maker(ways):
    """A dict with the kinds of each maker, by its first way, in their sequence."""
    kinds = {}
    for way in ways:
        if way[0] not in kinds:
            kinds[way[0]] = kinds_of(way)
    return kinds


def _kind_of(piece):
    if piece[0] == "lot":
        return "lot"
    return tuple([mark[0] for mark in piece[1]])


def _refs_to(kinds, words):
    refs = []
    for piece, kind in enumerate(kinds):
        if kind != "lot":
            refs.extend([(piece, row) for row, word in enumerate(kind) if word in words])
    return tuple(refs)
