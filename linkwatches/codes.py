"""The numbers by which calls, signals and refusals are told."""

CALL_START = 0
CALL_CHILD = 1
CALL_LINK = 2
CALL_CUT = 3
CALL_WATCH = 4
CALL_UNWATCH = 5
CALL_ENDS = 6
CALL_STOP = 7

# How many numbers stand behind a call's own, by the call's own.
NUMBERS_BEHIND = (0, 2, 2, 2, 2, 2, 2, 3)

SIGNAL_LINK = 1
SIGNAL_CUT = 2
SIGNAL_ENDED = 4
SIGNAL_STOP = 5
SIGNAL_WATCH = 6
SIGNAL_UNWATCH = 7
SIGNAL_GONE = 8

NOT_REFUSED = 0
REFUSED_MISFIT = -1
REFUSED_FULL = -6
REFUSED_ENDED = -8
