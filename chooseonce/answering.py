"""Asks answered by early choosing."""

from chooseonce.borders import border_of
from chooseonce.errors import Refused
from chooseonce.mending import last_step, mended
from chooseonce.rowlooks import checked_rows
from chooseonce.tables import early


def answer(shape, ask, rows):
    """Once: the last step from what early choosing tells by the mended ask."""
    checked_rows(shape.book, rows)
    return last_step(shape.book, ask, early(shape, mended(shape.book, ask), rows))


def strictly(shape, ask, rows):
    """Early; Refused if the ask does not pass."""
    checked_rows(shape.book, rows)
    border = border_of(shape.book, ask)
    if border is not None:
        raise Refused(border[1], border[2], border[3])
    return early(shape, ask, rows)


def asked(shape, name, rows):
    """Once, by the program's ask with this name."""
    checked_rows(shape.book, rows)
    return answer(shape, shape.book.ask(name), rows)
