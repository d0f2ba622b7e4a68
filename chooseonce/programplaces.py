"""Where the parts of a program stand in its tree."""

SIGNS = 1
ROWS = 2
PAIRS = 3
NUMBERS = 4
START = 5
LOTS = 6
JUDGES = 7
ASKS = 8
