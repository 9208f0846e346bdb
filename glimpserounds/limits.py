"""The limits of signs, records and questions."""

MOST_WIDTH = 8
MOST_LENGTH = 40
MOST_PACE = 9
MOST_GLANCES = 12
MOST_TIMES = 6
MOST_PAIRS = 30
GREATEST = 10 ** 30
