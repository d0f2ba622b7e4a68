"""Where the parts of a program stand in its tree, and its ways."""

SIGNS = 1
ROWS = 2
PAIRS = 3
NUMBERS = 4
START = 5
LOTS = 6
JUDGES = 7
ASKS = 8


def all_ways(program):
    """A list of the ways of all lots, in the program's sequence."""
    ways = []
    for lot in program[LOTS]:
        ways.extend(lot[1])
    return ways
