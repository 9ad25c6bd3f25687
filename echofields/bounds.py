"""The limits that the other modules keep."""

BATCH = 20
HISTORY = 40
MAX_FAR = 10 ** 18
MAX_FIELDS = 4
MAX_FILLINGS = 36
MAX_LINKS = 6
MAX_MOMENTS = 3000
MAX_RING = 8
MAX_ROW = 200
MAX_SIZE = 6
