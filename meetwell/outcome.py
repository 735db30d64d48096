"""What a meeting makes of the parts of all, in the order of the members' numbers."""

from meetwell.meeting import EXCHANGE, GREATEST, LEAST, MAPS, ONE_FOR_ALL, SUMS

MODULUS = 4294967296


def make_outcome(meeting, parts, me):
    """The result on member me; parts are those of all, by members."""
    if meeting.op == SUMS:
        return [sum(column) % MODULUS for column in columns(parts, meeting.count)]
    if meeting.op == LEAST:
        return [min(column) for column in columns(parts, meeting.count)]
    if meeting.op == GREATEST:
        return [max(column) for column in columns(parts, meeting.count)]
    if meeting.op == ONE_FOR_ALL:
        return list(parts[meeting.root])
    if meeting.op == EXCHANGE:
        start = me * meeting.count
        return behind_one_another([part[start:start + meeting.count] for part in parts])
    if meeting.op == MAPS:
        return chain_of_all(parts)
    # All parts one behind another; where there are none, nothing comes of them.
    return behind_one_another(parts)


def columns(parts, count):
    """For each place, the numbers that the parts have there."""
    found = []
    for place in range(count):
        found.append([part[place] for part in parts])
    return found


def behind_one_another(rows):
    joined = []
    for row in rows:
        joined.extend(row)
    return joined


def chain_of_all(parts):
    chained = list(parts[0])
    for part in parts[1:]:
        chained = chain(chained, part)
    return chained


def chain(first, second):
    """Pair by pair, the map that does first's map and then second's."""
    chained = []
    for at in range(0, len(first), 2):
        factor = second[at]
        chained.append(factor * first[at] % MODULUS)
        chained.append((factor * first[at + 1] + second[at + 1]) % MODULUS)
    return chained


def split_by_members(meeting, size, numbers):
    """The parts of all, by members, out of the one list in which they stand one behind another."""
    parts = []
    start = 0
    for member in range(size):
        end = start + meeting.part_length(size, member)
        parts.append(numbers[start:end])
        start = end
    return parts
