"""Expressions: an integer, and the sum of each k times its variable."""


def told_by(expression, settings):
    """The value of an expression; a variable that is not set is 0."""
    integer, pairs = expression
    return integer + sum([k * settings.get(variable, 0) for variable, k in pairs])


def added(one, other):
    """The sum of two expressions, its variables rising, each once, none with k 0."""
    by_variable = {}
    for variable, k in one[1] + other[1]:
        by_variable[variable] = by_variable.get(variable, 0) + k
    pairs = [(variable, by_variable[variable]) for variable in sorted(by_variable)]
    return (one[0] + other[0], tuple([pair for pair in pairs if pair[1] != 0]))


def taken_off(one, other):
    """One expression less the other, likewise."""
    integer, pairs = other
    return added(one, (-integer, tuple([(variable, -k) for variable, k in pairs])))
