"""Boxes: which widths pieces may have on a row."""


def mark_box(mark):
    """The least and the greatest width of a mark, None for the greatest if there is none."""
    if mark[0] == "sign":
        return (1, 1)
    if mark[0] == "none":
        return (0, 0)
    return (mark[1], mark[2])


def piece_box(piece, row, widths):
    """The box of a piece on the row; widths has the boxes of the lots, by their names."""
    if piece[0] == "lot":
        return widths[piece[1]]
    return mark_box(piece[1][row])


def added_boxes(boxes):
    """The box of all that have these boxes together."""
    tops = [box[1] for box in boxes]
    top = None if None in tops else sum(tops)
    return (sum([box[0] for box in boxes]), top)


def plain_can_be_empty(piece):
    """Whether a plain piece can have width 0 on all rows."""
    return all([mark_box(mark)[0] == 0 for mark in piece[1]])
