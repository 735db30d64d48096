"""The desk: takes calls that are written one behind another, and writes their answers likewise."""

from meetwell.hall import Hall, outcome_of
from meetwell.meeting import Meeting

OPEN = 1
BEGIN = 2
SAY = 3
CARRY = 4
LOSE = 5
MESSAGE = 6
TICK = 7
FORGET = 8
RESULT = 9
STATE = 10
KNOT = 12
OF = 13

# By call: how many whole numbers stand behind it, ahead of its row.
NUMBER_COUNTS = {1: 1, 2: 4, 3: 1, 4: 2, 5: 1, 6: 1, 7: 1, 8: 1, 9: 1, 10: 1, 11: 1, 12: 0, 13: 5}


def answers(calls):
    """For each call on a new object: how many numbers are answered, then these."""
    hall = Hall()
    written = []
    at = 0
    while at < len(calls):
        call = calls[at]
        behind = at + 1 + NUMBER_COUNTS[call]
        numbers = calls[at + 1:behind]
        row = []
        if call == BEGIN or call == OF:
            row_start = behind + 1
            behind = row_start + calls[behind]
            row = calls[row_start:behind]
        given = answer(hall, call, numbers, row)
        written.append(len(given))
        written.extend(given)
        at = behind
    return written


def answer(hall, call, numbers, row):
    if call == OPEN:
        return hall.open_group(numbers[0])
    if call == BEGIN:
        return hall.begin(numbers[0], Meeting(numbers[1], numbers[2], numbers[3]), row)
    if call == CARRY:
        return hall.carry(numbers[0], numbers[1])
    if call == LOSE:
        return hall.lose(numbers[0])
    if call == MESSAGE:
        return hall.show(numbers[0])
    if call == KNOT:
        return hall.show_knot()
    if call == OF:
        return outcome_of(Meeting(numbers[0], numbers[1], numbers[2]), numbers[3], numbers[4], row)
    return answer_of_member(hall, call, numbers[0])


def answer_of_member(hall, call, i):
    """The calls that name a member alone."""
    if call == SAY:
        return hall.say(i)
    if call == TICK:
        return hall.tick(i)
    if call == FORGET:
        return hall.forget(i)
    if call == RESULT:
        return hall.show_result(i)
    if call == STATE:
        return hall.show_state(i)
    # Only list is left: there is no call above 13.
    return hall.show_list(i)
