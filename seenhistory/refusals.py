"""The numbers by which calls are refused."""

NO_SUCH = -1
NOT_NOW = -2
NONE_FOUND = -3
FULL = -5
NO_HISTORY = -9
