"""How values by number formulas grow with the value of one part."""


def slope_of(form, place):
    """The slope of a form at a place; 0 if the part does not stand in it."""
    return sum([k for k, atom in form if atom == ("part", place)])


def low_of(formula, place):
    """The least slope of a number formula at a place."""
    return min([slope_of(form, place) for form in formula[1]])


def high_of(formula, place):
    """The greatest slope of a number formula at a place."""
    return max([slope_of(form, place) for form in formula[1]])


def bends(formula, place):
    """Whether values fall here and rise there: low is below 0 and high above 0."""
    return low_of(formula, place) < 0 and high_of(formula, place) > 0
