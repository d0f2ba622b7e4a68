"""Stretches of rows, their widths and their texts."""


def whole_of(lengths):
    """The stretch of whole rows with these lengths."""
    return tuple([(0, length) for length in lengths])


def widths_of(stretch):
    """The widths of a stretch, row by row."""
    return tuple([end - start for start, end in stretch])


def piece_stretches(stretch, cut):
    """The stretch of each piece, by a cut over the stretch."""
    by_rows = [_pairs_along(pair[0], widths) for pair, widths in zip(stretch, cut)]
    return tuple(zip(*by_rows))


def texts_in(rows, stretch):
    """The texts under the stretch, row by row."""
    return tuple([row[start:end] for row, (start, end) in zip(rows, stretch)])


def parts_due(way, stretch, cut):
    """A list with, for each part of the way, its lot and its stretch by the cut."""
    places = piece_stretches(stretch, cut)
    return [(piece[1], place) for piece, place in zip(way[1], places) if piece[0] == "lot"]


def _pairs_along(start, widths):
    """The pairs (from, to) of pieces with these widths that follow one another."""
    pairs = []
    end = start
    for width in widths:
        pairs.append((end, end + width))
        end += width
    return pairs
