"""The desk: takes calls that are written one behind another, and writes their answers likewise."""

from meetwell.hall import Hall
from meetwell.meeting import Meeting

OPEN = 1
BEGIN = 2
SAY = 3
CARRY = 4
LOSE = 5
MESSAGE = 6

# By call: how many whole numbers stand behind it, ahead of its row.
NUMBER_COUNTS = {1: 1, 2: 4, 3: 1, 4: 2, 5: 1, 6: 1, 7: 1}


def answers(calls):
    """For each call on a new object: how many numbers are answered, then these."""
    hall = Hall()
    written = []
    at = 0
    while at < len(calls):
        call = calls[at]
        behind = at + 1 + NUMBER_COUNTS[call]
        numbers = calls[at + 1:behind]
        row = []
        if call == BEGIN:
            row_start = behind + 1
            behind = row_start + calls[behind]
            row = calls[row_start:behind]
        given = answer(hall, call, numbers, row)
        written.append(len(given))
        written.extend(given)
        at = behind
    return written


def answer(hall, call, numbers, row):
    first = numbers[0]
    if call == OPEN:
        return hall.open_group(first)
    if call == BEGIN:
        return hall.begin(first, Meeting(numbers[1], numbers[2], numbers[3]), row)
    if call == SAY:
        return hall.say(first)
    if call == CARRY:
        return hall.carry(first, numbers[1])
    if call == LOSE:
        return hall.lose(first)
    if call == MESSAGE:
        return hall.show(first)
    # Only tick is left: no other call has its numbers counted above.
    return hall.tick(first)
