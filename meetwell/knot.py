"""Where a group stands: which member it is for, if messages alone don't bring it on."""

from meetwell.codes import ALL_IDLE, ALL_WHOLE, BEGIN_WANTED, MESSAGES_WANTED, UNLIKE


def find_knot(members):
    """What holds the group up, number by number; there is at least one member."""
    unlike = first_unlike(members)
    if unlike is not None:
        return [UNLIKE, unlike.me, unlike.number]
    late = first_late(members)
    if late is not None:
        return [BEGIN_WANTED, late.me, late.next_number()]
    # Nobody is late, so those that are whole are all at the same number.
    if all([member.is_whole() for member in members]):
        return [ALL_WHOLE]
    if all([member.is_idle() for member in members]):
        return [ALL_IDLE]
    return [MESSAGES_WANTED]


def first_unlike(members):
    """The first that is apart, or at the lowest number in another meeting than the first there; else None."""
    lowest = min([member.number for member in members])
    first_there = None
    for member in members:
        if member.apart:
            return member
        if member.number == lowest and not member.is_idle():
            if first_there is None:
                first_there = member
            if not member.meeting.same_as(first_there.meeting):
                return member
    return None


def first_late(members):
    """The first that has not begun what another has, though nothing but itself hinders it; else None."""
    highest = max([member.number for member in members])
    some_begun = not all([member.is_idle() for member in members])
    for member in members:
        if member.is_idle() and some_begun:
            return member
        if member.is_whole() and member.number < highest:
            return member
    return None
