"""The numbers that are answered: refusals, and what a member did with a message."""

NO_SUCH = -1
MISFIT = -3
NOTHING_THERE = -4
NO_ROOM = -6
WRONG_STATE = -8

DONE = 0

KEPT = 0
HAD_ALREADY = 1
NOT_YET = 2
ONE_BELOW = 3
LONG_PAST = 4
OTHER_MEETING = 5
