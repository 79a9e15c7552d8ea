"""The numbers by which calls are refused."""

NO_SUCH = -1
NOT_NOW = -2
NONE_FOUND = -3
FULL = -5
NOT_ASKED = -6
NO_HISTORY = -9

# Of held alone; behind these stands the place.
TOO_EARLY = -2
OTHER_ANSWER = -3
