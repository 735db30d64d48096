"""A message from one member to another."""


class Message:
    """What was said stays as it was said: nothing here is changed afterwards."""

    def __init__(self, sender, receiver, number, meeting, has, part):
        self.sender = sender
        self.receiver = receiver
        self.number = number
        self.meeting = meeting
        self.has = has
        self.part = part

    def as_numbers(self):
        """The message number by number; has is a rising list."""
        meeting = self.meeting
        head = [self.sender, self.receiver, self.number, meeting.op, meeting.root, meeting.count]
        return head + [len(self.has)] + self.has + self.part
