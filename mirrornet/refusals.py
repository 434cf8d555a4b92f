"""The numbers by which a call is refused."""

NO_SUCH = -1
OUT_OF_RANGE = -2
TAKEN = -3
FULL = -4
LAST_TICK = -5
NO_TICK_YET = -6
NOTHING_SHOWN = -7
NOT_KEPT = -8
NOTHING_KNOWN = -9
