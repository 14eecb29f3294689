"""The limits that several modules share."""

MOST_PEOPLE = 12
SMALL = 8
MOST_LETTERS = 400
MOST_TIMES = 10 ** 30
MOST_DEEDS = 2000
