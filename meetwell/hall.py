"""The hall: a group of members, the places where messages lie, and the calls on both."""

from meetwell.codes import DONE, MISFIT, NO_ROOM, NO_SUCH, NOTHING_THERE, WRONG_STATE
from meetwell.knot import find_knot
from meetwell.member import Member
from meetwell.outcome import make_outcome, split_by_members

MOST_MEMBERS = 8
PLACE_COUNT = 64
HIGHEST_NUMBER = 4294967295


class Hall:
    """Each call gives back the list of the numbers that it answers; a refusal changes nothing."""

    def __init__(self):
        self.members = []
        self.places = [None] * PLACE_COUNT

    def has_member(self, i):
        return i < len(self.members)

    def open_group(self, n):
        if not is_size(n):
            return [NO_SUCH]
        self.members = [Member(me, n) for me in range(n)]
        self.places = [None] * PLACE_COUNT
        return [DONE]

    def begin(self, i, meeting, part):
        size = len(self.members)
        if not self.has_member(i) or not meeting.fits(size) or not are_part_numbers(part):
            return [NO_SUCH]
        if len(part) != meeting.part_length(size, i):
            return [MISFIT]
        member = self.members[i]
        if not member.is_idle() and not member.is_whole():
            return [WRONG_STATE]
        if member.number == HIGHEST_NUMBER:
            return [NO_ROOM]
        member.begin(meeting, part)
        return [member.number]

    def say(self, i):
        if not self.has_member(i):
            return [NO_SUCH]
        member = self.members[i]
        if member.owed_count() == 0:
            return [NOTHING_THERE]
        if None not in self.places:
            return [NO_ROOM]
        place = self.places.index(None)
        self.places[place] = member.say()
        return self.show(place)

    def carry(self, place, i):
        if place >= PLACE_COUNT or not self.has_member(i):
            return [NO_SUCH]
        message = self.places[place]
        if message is None:
            return [NOTHING_THERE]
        return [self.members[i].hear(message)]

    def lose(self, place):
        if place >= PLACE_COUNT:
            return [NO_SUCH]
        if self.places[place] is None:
            return [NOTHING_THERE]
        self.places[place] = None
        return [DONE]

    def show(self, place):
        if place >= PLACE_COUNT:
            return [NO_SUCH]
        message = self.places[place]
        if message is None:
            return [NOTHING_THERE]
        return [place] + message.as_numbers()

    def tick(self, i):
        if not self.has_member(i):
            return [NO_SUCH]
        member = self.members[i]
        if member.is_idle():
            return [WRONG_STATE]
        member.tick()
        return [member.owed_count()]

    def forget(self, i):
        if not self.has_member(i):
            return [NO_SUCH]
        member = self.members[i]
        if member.is_idle():
            return [WRONG_STATE]
        member.forget()
        return [DONE]

    def show_result(self, i):
        if not self.has_member(i):
            return [NO_SUCH]
        member = self.members[i]
        if not member.is_whole():
            return [MISFIT]
        return [DONE] + member.result()

    def show_state(self, i):
        if not self.has_member(i):
            return [NO_SUCH]
        return self.members[i].state_numbers()

    def show_list(self, i):
        if not self.has_member(i):
            return [NO_SUCH]
        return self.members[i].list_numbers()

    def show_knot(self):
        if len(self.members) == 0:
            return [NO_SUCH]
        return find_knot(self.members)


def is_size(n):
    return 1 <= n and n <= MOST_MEMBERS


def outcome_of(meeting, size, me, numbers):
    """The call of: the result on member me where those parts of all are brought; it needs no group."""
    if not is_size(size) or me >= size or not meeting.fits(size) or not are_part_numbers(numbers):
        return [NO_SUCH]
    if len(numbers) != meeting.length_of_all(size):
        return [MISFIT]
    return [DONE] + make_outcome(meeting, split_by_members(meeting, size, numbers), me)


def are_part_numbers(part):
    return max(part, default=0) <= HIGHEST_NUMBER
