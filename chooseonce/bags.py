"""The bags of values of all candidates, and once."""

from chooseonce.answers import answer_to
from chooseonce.listing import listed_values, whole_values


def bag_of(shape, ask, rows, lot, stretch):
    """The values by the ask of all candidates of the lot over the stretch, in their order."""
    return listed_values(shape, ask, rows, lot, stretch)


def once(shape, ask, rows):
    """The answer to the bag of the values of all candidates of the start lot over the whole."""
    return answer_to(ask, whole_values(shape, ask, rows))
