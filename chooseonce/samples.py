"""Samples: candidates of lots, and of the start lot with a lot in them."""

from chooseonce.comings import steps_of
from chooseonce.errors import NoName
from chooseonce.kinds import kinds_of, part_lots, part_places
from chooseonce.making import makings, reached, useful_lots
from chooseonce.signing import signing_of


def sample(book, lot):
    """A pair (rows, candidate of the lot over them whole); NoName if the lot is not made."""
    made = makings(book)
    if lot not in made:
        raise NoName(lot)
    return built_along(book, made, lot)


def used_sample(book, lot):
    """Rows, a candidate of the start lot over them whole, and the path of a node of the lot in it."""
    if lot not in useful_lots(book):
        raise NoName(lot)
    made = makings(book)
    rows, tree = built_along(book, made, lot)
    path = ()
    for above, number, place, _ in _steps_to(book, lot)[::-1]:
        way = book.ways(above)[number]
        at = part_places(kinds_of(way)).index(place)
        given = [built_along(book, made, part) for part in part_lots(way)]
        given[at] = (rows, tree)
        rows, tree = _built(book, above, number, given)
        path = (at,) + path
    return (rows, tree, path)


def built_along(book, made, lot):
    """Rows and a candidate of the lot over them whole, by the ways of made, as makings tells them."""
    nexts = {one: part_lots(book.ways(one)[made[one]]) for one in made}
    needed = reached([lot], nexts)
    built = {}
    for one in made:
        if one in needed:
            built[one] = _built(book, one, made[one], [built[part] for part in nexts[one]])
    return built[lot]


def _built(book, lot, number, given):
    """The same with this way at the root, and for each part the pair (rows, candidate) given."""
    texts = _texts_of(book, book.ways(lot)[number], [pair[0] for pair in given])
    by_rows = [[piece[row] for piece in texts] for row in range(book.rows)]
    rows = tuple(["".join(column) for column in by_rows])
    cut = tuple([tuple([len(text) for text in column]) for column in by_rows])
    return (rows, (lot, number, cut, tuple([pair[1] for pair in given])))


def _texts_of(book, way, below):
    """A list with the texts of each piece, row by row; below has those of the parts."""
    signs = {ref: sign for ref, sign in signing_of(book, way)}
    parts = part_places(kinds_of(way))
    texts = []
    for place, piece in enumerate(way[1]):
        if piece[0] == "lot":
            texts.append(below[parts.index(place)])
        else:
            texts.append([_text_at(book, mark, signs.get((place, row)))
                          for row, mark in enumerate(piece[1])])
    return texts


def _text_at(book, mark, sign):
    """The text at a mark, as short as can be; sign is that for a sign place."""
    if mark[0] == "sign":
        return sign
    return book.signs[0] * mark[1] if mark[0] == "run" else ""


def _steps_to(book, lot):
    """A list of steps, one after the other, that lead from the start lot to this one."""
    steps = steps_of(book)
    found = {book.start: []}
    while lot not in found:
        for step in steps:
            if step[0] in found and step[3] not in found:
                found[step[3]] = found[step[0]] + [step]
    return found[lot]
