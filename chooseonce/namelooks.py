"""The look at names that stand twice."""

from chooseonce.errors import TwiceNamed
from chooseonce.programplaces import ASKS, JUDGES, LOTS, NUMBERS, PAIRS


def look_names(program):
    """Raises TwiceNamed for the first name that stood before in its list."""
    for place in (PAIRS, NUMBERS, LOTS, JUDGES, ASKS):
        _look_list([entry[0] for entry in program[place]])


def _look_list(names):
    seen = set()
    for name in names:
        if name in seen:
            raise TwiceNamed(name)
        seen.add(name)
