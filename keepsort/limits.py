"""The limits that the other modules share."""

MOST_CELLS = 24
SMALL = 10
MOST_INDEX = 7
MOST_VALUE = 9999
MOST_LETTERS = 400
MOST_TIMES = 10 ** 30
MOST_EDITS = 1000
