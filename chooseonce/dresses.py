"""The dresses of ways."""

from chooseonce.stretches import piece_stretches, texts_in


def dress_of(rows, way, stretch, cut):
    """The dress of the way with a cut over the stretch."""
    places = piece_stretches(stretch, cut)
    return tuple([_texts_of(rows, piece, place) for piece, place in zip(way[1], places)])


def holds(book, way, dress):
    """Whether letters and tests hold for the dress."""
    return letters_hold(book, way, dress) and tests_hold(book, way, dress)


def letters_hold(book, way, dress):
    """Whether the text at each sign place is just one sign, one of its letters."""
    for piece, texts in zip(way[1], dress):
        if piece[0] == "plain":
            fitting = [_fits(book, mark, text) for mark, text in zip(piece[1], texts)]
            if not all(fitting):
                return False
    return True


def tests_hold(book, way, dress):
    """Whether all tests of the way hold."""
    for name, one, other in way[2]:
        if not book.in_pairs(name, text_at(dress, one) + text_at(dress, other)):
            return False
    return True


def plain_dress(book, kinds):
    """The dress with the first sign at each sign place and "" at all other marks."""
    return tuple([_plain_texts(book, kind) for kind in kinds])


def letters_of(book, mark):
    """The letters of a mark "sign"."""
    return book.signs if mark[1] == "" else mark[1]


def text_at(dress, ref):
    """The text of the dress at a ref."""
    piece, row = ref
    return dress[piece][row]


def _texts_of(rows, piece, place):
    return None if piece[0] == "lot" else texts_in(rows, place)


def _fits(book, mark, text):
    """Whether the text may stand at the mark; widths of runs and of none are not looked at."""
    if mark[0] != "sign":
        return True
    return len(text) == 1 and text in letters_of(book, mark)


def _plain_texts(book, kind):
    if kind == "lot":
        return None
    return tuple([book.signs[0] if word == "sign" else "" for word in kind])
