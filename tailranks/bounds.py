"""The limits that the functions of the package keep to."""

MAX_WORD = 24
MAX_COUNT = 40
MAX_TIMES = 10 ** 12
MAX_EDITS = 60
BATCH = 20
