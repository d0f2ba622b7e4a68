"""Between which numbers the values of a formula lie, by those between which the parts' values lie."""

from chooseonce.formvalues import form_value
from chooseonce.kinds import part_places
from chooseonce.slopes import slope_of


def form_bounds(book, kinds, form, dress, pairs):
    """The pair of the lower and the upper number of a form; pairs has (lo, hi) for each part."""
    plain = tuple([item for item in form if item[1][0] != "part"])
    lower = upper = form_value(book, kinds, plain, dress, ())
    for place, (lo, hi) in zip(part_places(kinds), pairs):
        slope = slope_of(form, place)
        lower = lower + slope * (lo if slope > 0 else hi)
        upper = upper + slope * (hi if slope > 0 else lo)
    return (lower, upper)


def formula_bounds(book, kinds, formula, dress, pairs):
    """The same of a formula of sort "number"."""
    how, forms = formula
    bounds = [form_bounds(book, kinds, form, dress, pairs) for form in forms]
    lowers = [lower for lower, _ in bounds]
    uppers = [upper for _, upper in bounds]
    return (max(lowers), max(uppers)) if how == "max" else (min(lowers), min(uppers))
