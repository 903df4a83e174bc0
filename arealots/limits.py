"""The limits that the other modules keep to."""

MOST_BUTTONS = 5
MOST_NUMBER = 10 ** 30
MOST_DEPTH = 5
MOST_STEPS = 16
MOST_DIRECT = 24
MOST_CHANGES = 6
