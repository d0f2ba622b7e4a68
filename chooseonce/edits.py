"""Edits of rows, sign by sign."""

from chooseonce.errors import BadPlace, BadSign


def edited(book, rows, edit):
    """The rows behind the edit."""
    how, row, at = edit[:3]
    _check_place(rows, how, row, at)
    sign = "" if how == "take" else edit[3]
    if how != "take" and sign not in tuple(book.signs):
        raise BadSign(sign)
    behind = at if how == "put" else at + 1
    changed = rows[row][:at] + sign + rows[row][behind:]
    return rows[:row] + (changed,) + rows[row + 1:]


def undoing(rows, edit):
    """The edit that turns the rows behind the edit into these."""
    how, row, at = edit[:3]
    if how == "put":
        return ("take", row, at)
    return ("set" if how == "set" else "put", row, at, rows[row][at])


def old_stretch(stretch, edit):
    """The stretch on the rows ahead of the edit; None if there is none."""
    how, row, at = edit[:3]
    pair = _old_pair(stretch[row], how, at)
    return None if pair is None else stretch[:row] + (pair,) + stretch[row + 1:]


def _check_place(rows, how, row, at):
    if row < 0 or row >= len(rows):
        raise BadPlace(row, at)
    top = len(rows[row]) if how == "put" else len(rows[row]) - 1
    if at < 0 or at > top:
        raise BadPlace(row, at)


def _old_pair(pair, how, at):
    """The pair (from, to) on the edited row ahead of the edit, or None."""
    start, end = pair
    if how == "set":
        return pair if at < start or at >= end else None
    if end <= at:
        return pair
    if how == "put":
        return (start - 1, end - 1) if start > at else None
    return (start + 1, end + 1) if start >= at else None
