"""The limits of rows, small webs, near rows and changes."""

MOST_KINDS = 10
MOST_DEGREE = 10 ** 31
MOST_COUNT = 10 ** 30
MOST_PLACES = 10
MOST_COUNTED = 7
MOST_NEAR = 8
MOST_CHANGES = 6
