"""The numbers by which calls are refused."""

NO_SUCH = -2
NOT_BEGUN = -6
NOT_STARTED = -11
BEGUN_BEFORE = -16
IS_BEGUN = -17
WRONG = -22
FULL = -28
NO_DELAY = -33
NOT_KEPT = -62
