"""The numbers that are answered: refusals, what a member did with a message, where a member and a group stand."""

NO_SUCH = -1
MISFIT = -3
NOTHING_THERE = -4
NO_ROOM = -6
WRONG_STATE = -8

DONE = 0

KEPT = 0
HAD_ALREADY = 1
NOT_YET = 2
ONE_BELOW = 3
LONG_PAST = 4
OTHER_MEETING = 5

IDLE = 0
BEGUN = 1
WHOLE = 2
APART = 3

MESSAGES_WANTED = 0
BEGIN_WANTED = 1
UNLIKE = 2
ALL_WHOLE = 3
ALL_IDLE = 4
