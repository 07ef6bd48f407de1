"""How many there may be of each thing in a program."""

MOST_PIECES = 6
MOST_LOOPS = 3
MOST_ROWS = 8
MOST_TERMS = 4
MOST_PLACES = 2
MOST_SUMS = 2
