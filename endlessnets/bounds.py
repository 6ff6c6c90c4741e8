"""The greatest numbers of things that more than one module asks for."""

MOST_DIRECTIONS = 3
MOST_PLACES = 64
MOST_TIES = 400
MOST_TIMES = 100
