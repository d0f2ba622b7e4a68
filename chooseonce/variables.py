"""Expressions of one number or of one variable."""


def number(integer):
    """The expression of an integer alone."""
    return (integer, ())


def variable(name):
    """The expression of a variable alone."""
    return (0, ((name, 1),))


def length_of(row):
    """The length of the row."""
    return variable(f"n{row}")


def width_on(row):
    """The width of the stretch on the row."""
    return variable(f"v{row}")


def from_on(row):
    """The from of the stretch on the row."""
    return variable(f"i{row}")


def end_name(row, piece):
    """The name of the variable that is the end of the piece on the row."""
    return f"e{row}.{piece}"
