"""The flanks of number formulas: where their values go on with one slope for ever."""

from chooseonce.formvalues import form_value
from chooseonce.kinds import part_places


def flank_of(book, kinds, formula, place, dress, side):
    """A pair (x, x + 1) from which on the value grows by the low, or the high, each time.

    It does so for all greater values of the part if x is at least 0, for all lesser ones if x is
    below 0; the other parts have the value 0.
    """
    zeros = (0,) * len(part_places(kinds))
    bases = [form_value(book, kinds, form, dress, zeros) for form in formula[1]]
    # Forms with unlike slopes cross no further out than the difference of their values at 0.
    reach = max(bases) - min(bases)
    if _is_to_the_right(formula, side):
        return (reach, reach + 1)
    return (-reach - 1, -reach)


def _is_to_the_right(formula, side):
    """Whether the form with this slope tells the value of the formula far to the right."""
    return (formula[0] == "max") == (side == "high")
