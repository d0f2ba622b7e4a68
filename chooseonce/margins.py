"""Margins: how many signs may stand left and right of a lot."""

from chooseonce.boxes import added_boxes, piece_box
from chooseonce.greatestwidths import greatests_in
from chooseonce.leastwidths import leasts_in
from chooseonce.living import Living


def margins_of(book, row):
    """Quadruples (left least, left greatest, right least, right greatest), for the useful lots."""
    living = Living(book)
    margins = margins_in(living, widths_in(living, row), row)
    return tuple([margins[lot] for lot in living.useful])


def widths_in(living, row):
    """A dict from each useful lot to the pair of its least and its greatest width on the row."""
    least = leasts_in(living, row)
    greatest = greatests_in(living, row)
    return {lot: (least[lot], greatest.get(lot)) for lot in living.useful}


def margins_in(living, widths, row):
    """A dict from each useful lot to its margins on the row; widths are those of widths_in."""
    left = _sums_along(living, [_box_of(living.ahead(step), widths, row) for step in living.steps])
    right = _sums_along(living, [_box_of(living.behind(step), widths, row) for step in living.steps])
    return {lot: left[lot] + right[lot] for lot in living.useful}


def _box_of(pieces, widths, row):
    """The box of all these pieces together."""
    return added_boxes([piece_box(piece, row, widths) for piece in pieces])


def _sums_along(living, boxes):
    """A dict from each useful lot to the least and the greatest sum of boxes, one for each step."""
    moves = [(step[0], step[3], box) for step, box in zip(living.steps, boxes)]
    least = _least_sums(living.book.start, moves)
    greatest = _greatest_sums(living, moves)
    return {lot: (least[lot], greatest.get(lot)) for lot in living.useful}


def _least_sums(start, moves):
    """A dict to the least sum along moves from the start lot."""
    sums = {start: 0}
    told = {}
    while told != sums:
        told = {lot: sums[lot] for lot in sums}
        for lot, part, box in moves:
            if lot in sums:
                reach = sums[lot] + box[0]
                sums[part] = min(reach, sums.get(part, reach))
    return sums


def _greatest_sums(living, moves):
    """A dict to the greatest sum from each lot that has one."""
    endless = _endless(living, moves)
    start = living.book.start
    sums = {} if start in endless else {start: 0}
    told = {}
    while told != sums:
        told = {lot: sums[lot] for lot in sums}
        for lot, part, box in moves:
            if lot in sums and part not in endless:
                sums[part] = max(sums[lot] + box[1], sums.get(part, 0))
    return sums


def _endless(living, moves):
    """A list of the lots without a greatest sum: a move adds without end, or again and again."""
    found = []
    for lot, part, box in moves:
        behind = living.comings(part)
        if box[1] is None or (box[1] > 0 and lot in behind):
            found.extend(behind)
    return found
