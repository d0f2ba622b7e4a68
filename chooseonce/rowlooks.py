"""The look at rows."""

from chooseonce.errors import BadRows
from chooseonce.words import has_only


def checked_rows(book, rows):
    """The lengths of the rows; BadRows if they are none of the program's."""
    if not isinstance(rows, tuple) or len(rows) != book.rows:
        raise BadRows(-1)
    for row, signs in enumerate(rows):
        if not isinstance(signs, str) or not has_only(signs, book.signs):
            raise BadRows(row)
    return tuple([len(signs) for signs in rows])
