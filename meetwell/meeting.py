"""What a meeting is, and how long each member's part of it is."""

SUMS = 0
LEAST = 1
GREATEST = 2
ONE_FOR_ALL = 4
EXCHANGE = 5
NO_PARTS = 6
MAPS = 7

HIGHEST_OP = 7
HIGHEST_COUNT = 64


class Meeting:
    """An op, a root and a count; not changed once it is made, so members and messages share it."""

    def __init__(self, op, root, count):
        self.op = op
        self.root = root
        self.count = count

    def fits(self, size):
        """Whether a group of that many members can hold such a meeting."""
        if self.op > HIGHEST_OP or self.root >= size or self.count > HIGHEST_COUNT:
            return False
        if self.op != ONE_FOR_ALL and self.root != 0:
            return False
        return self.op != NO_PARTS or self.count == 0

    def same_as(self, other):
        return self.op == other.op and self.root == other.root and self.count == other.count

    def part_length(self, size, member):
        """How many numbers the member's part has in a group of that many."""
        if self.op == ONE_FOR_ALL:
            return self.count if member == self.root else 0
        if self.op == EXCHANGE:
            return size * self.count
        if self.op == MAPS:
            return 2 * self.count
        return self.count

    def length_of_all(self, size):
        """How many numbers the parts of all have together in a group of that many."""
        return sum([self.part_length(size, member) for member in range(size)])
