"""The limits that the other modules share."""

MOST_HOUSES = 10
MOST_WORD = 200
MOST_CHANGES = 2
MOST_UNREAD = 3
MOST_LINES = 20000
MOST_CODES = 100
MARKS = "abcdefghijkl"
