"""One member of a group: where it is, what it has, and what it is to say."""

from meetwell.codes import APART, BEGUN, IDLE, WHOLE
from meetwell.codes import HAD_ALREADY, KEPT, LONG_PAST, MISFIT, NOT_YET, ONE_BELOW, OTHER_MEETING
from meetwell.message import Message
from meetwell.outcome import make_outcome


class Member:
    """Parts are kept by member; the dicts of True hold members."""

    def __init__(self, me, size):
        self.me = me
        self.size = size
        self.number = 0
        self.meeting = None
        self.apart = False
        self.parts = {}
        self.known = {}
        self.owed = {}
        self.meeting_before = None
        self.part_before = []
        self.owed_before = {}

    def is_idle(self):
        return self.meeting is None

    def is_whole(self):
        return len(self.parts) == self.size

    def next_number(self):
        """The number of the meeting that it would begin next."""
        return self.number if self.is_idle() else self.number + 1

    def others(self):
        return [member for member in range(self.size) if member != self.me]

    def begin(self, meeting, part):
        """Bring the part to the next meeting; only an idle or a whole member may."""
        if not self.is_idle():
            self.leave_number()
        self.meeting = meeting
        self.keep_own_part_alone(part)
        self.owed = {}
        for other in self.others():
            self.owed[other] = True

    def keep_own_part_alone(self, part):
        self.parts = {self.me: part}
        self.known = {self.me: True}

    def leave_number(self):
        # Others may still lack this part: it and those who are owed it stay for one number more.
        self.number = self.next_number()
        self.meeting_before = self.meeting
        self.part_before = self.parts[self.me]
        self.owed_before = self.owed

    def forget(self):
        """Be as one that has just brought its part, with nobody on the list; an idle one may not."""
        self.keep_own_part_alone(self.parts[self.me])
        self.apart = False
        self.owed = {}
        self.owed_before = {}

    def tick(self):
        for other in self.others():
            if other not in self.known or other not in self.parts:
                self.owed[other] = True

    def owed_count(self):
        return len(self.owed_before) + len(self.owed)

    def say(self):
        """Take the first off the list, which is not empty, and make its message."""
        if len(self.owed_before) > 0:
            return self.say_before()
        receiver = min(self.owed)
        self.owed.pop(receiver)
        return Message(self.me, receiver, self.number, self.meeting, sorted(self.parts), self.parts[self.me])

    def say_before(self):
        receiver = min(self.owed_before)
        self.owed_before.pop(receiver)
        # It could leave that number only when whole, so it had the parts of all.
        everyone = list(range(self.size))
        return Message(self.me, receiver, self.number - 1, self.meeting_before, everyone, self.part_before)

    def hear(self, message):
        """Do what the message asks for; the answer tells what that was."""
        if message.receiver != self.me:
            return MISFIT
        if self.is_idle() or message.number > self.number:
            return NOT_YET
        if message.number == self.number:
            return self.hear_own_number(message)
        if message.number < self.number - 1:
            return LONG_PAST
        if self.me not in message.has:
            self.owed_before[message.sender] = True
        return ONE_BELOW

    def hear_own_number(self, message):
        if self.apart:
            return OTHER_MEETING
        if not self.meeting.same_as(message.meeting):
            # A whole member has all that it needs: no other meeting can part it from this one.
            self.apart = not self.is_whole()
            return OTHER_MEETING
        return self.hear_own_meeting(message)

    def hear_own_meeting(self, message):
        if self.me in message.has:
            self.known[message.sender] = True
        else:
            self.owed[message.sender] = True
        if message.sender in self.parts:
            return HAD_ALREADY
        self.parts[message.sender] = message.part
        return KEPT

    def result(self):
        """What comes out on this member, which is whole."""
        return make_outcome(self.meeting, [self.parts[member] for member in range(self.size)], self.me)

    def state(self):
        if self.is_whole():
            return WHOLE
        if self.apart:
            return APART
        return IDLE if self.is_idle() else BEGUN

    def state_numbers(self):
        """Where it stands, number by number: a meeting and parts only if it is not idle."""
        head = [self.state(), self.number]
        if self.is_idle():
            return head
        meeting = self.meeting
        head = head + [meeting.op, meeting.root, meeting.count, len(self.parts)]
        return head + sorted(self.parts) + sorted(self.known)

    def list_numbers(self):
        """Its list, number by number: how many for the number before, they, then those for its own."""
        return [len(self.owed_before)] + sorted(self.owed_before) + sorted(self.owed)
