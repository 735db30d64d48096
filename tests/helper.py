"""Calls written by name, their answers split up, and a check that a refusal changes nothing."""

import unittest

from meetwell.desk import answers

TOP = 2 ** 32 - 1


def open_group(n):
    return [1, n]


def begin(i, op, root, c, part):
    return [2, i, op, root, c, len(part)] + part


def say(i):
    return [3, i]


def carry(place, i):
    return [4, place, i]


def lose(place):
    return [5, place]


def message(place):
    return [6, place]


def tick(i):
    return [7, i]


def forget(i):
    return [8, i]


def result(i):
    return [9, i]


def state(i):
    return [10, i]


def listed(i):
    """The call list."""
    return [11, i]


def knot():
    return [12]


def of(op, root, c, n, me, parts):
    return [13, op, root, c, n, me, len(parts)] + parts


def part_length(op, c, n, is_root):
    """As the document's table has it."""
    return {0: c, 1: c, 2: c, 3: c, 4: c if is_root else 0, 5: n * c, 6: 0, 7: 2 * c}[op]


def expected_result(op, root, c, me, parts):
    """The document's table once more: parts is one list for each member."""
    if op in (0, 1, 2):
        make = {0: lambda column: sum(column) % 2 ** 32, 1: min, 2: max}[op]
        return [make([part[k] for part in parts]) for k in range(c)]
    if op == 4:
        return parts[root]
    if op == 5:
        return [part[me * c + k] for part in parts for k in range(c)]
    if op == 7:
        made = []
        for k in range(c):
            # Where a map takes 0 and 1 tells all of it.
            at_0, at_1 = 0, 1
            for part in parts:
                at_0 = part[2 * k] * at_0 + part[2 * k + 1]
                at_1 = part[2 * k] * at_1 + part[2 * k + 1]
            made += [(at_1 - at_0) % 2 ** 32, at_0 % 2 ** 32]
        return made
    return [number for part in parts for number in part]


def split(written):
    """One list for each call, out of the one list that is given back."""
    rows = []
    at = 0
    while at < len(written):
        end = at + 1 + written[at]
        if end > len(written):
            raise AssertionError("fewer numbers than were told")
        rows.append(written[at + 1:end])
        at = end
    return rows


def run(calls):
    flat = [number for call in calls for number in call]
    rows = split(answers(flat))
    if len(rows) != len(calls):
        raise AssertionError("not one answer for each call")
    return rows


def read_message(row):
    """The fields of what say and message answer."""
    has_end = 8 + row[7]
    return {
        "place": row[0], "from": row[1], "to": row[2], "number": row[3],
        "meeting": tuple(row[4:7]), "has": row[8:has_end], "part": row[has_end:],
    }


def read_state(row):
    """The fields of what state answers."""
    if row[0] == 0:
        return {"state": 0, "number": row[1], "meeting": None, "parts": [], "known": []}
    parts_end = 6 + row[5]
    return {
        "state": row[0], "number": row[1], "meeting": tuple(row[2:5]), "parts": row[6:parts_end],
        "known": row[parts_end:],
    }


class Play:
    """Calls added some at a time, so that the next may hang on the last answers."""

    def __init__(self, size, calls):
        self.size = size
        self.calls = list(calls)

    def do(self, calls):
        self.calls = self.calls + calls
        return run(self.calls)[len(self.calls) - len(calls):]

    def peek(self, calls):
        """What would be answered, with nothing added."""
        return run(self.calls + calls)[len(self.calls):]

    def answer(self, call):
        return self.do([call])[0]

    def states(self):
        return [read_state(row) for row in self.peek([state(member) for member in range(self.size)])]

    def round_of_messages(self):
        """Each ticks, says its whole list, and all that's carried; what's carried is lost behind it."""
        ticked = self.do([tick(member) for member in range(self.size)])
        says = [say(member) for member in range(self.size) for _ in range(max(ticked[member][0], 0))]
        said = [read_message(row) for row in self.do(says)]
        self.do([carry(one["place"], one["to"]) for one in said])
        self.do([lose(one["place"]) for one in said])


def probes(size):
    """Calls that bring to light what members, lists and places hold."""
    calls = [message(place) for place in range(64)] + [knot()]
    for member in range(size):
        calls += [state(member), listed(member), result(member)]
    calls += [lose(63), lose(62)]
    for round_number in range(2):
        for member in range(size):
            for _ in range(2 * size):
                calls.append(say(member))
        for place in range(24):
            for member in range(size):
                calls.append(carry(place, member))
        calls += [tick(member) for member in range(size)]
    calls += [begin(member, 6, 0, 0, []) for member in range(size)]
    return calls


class CallTest(unittest.TestCase):

    def assert_answers(self, pairs):
        """pairs: each call with what it answers."""
        rows = run([call for call, _ in pairs])
        for k, (call, expected) in enumerate(pairs):
            self.assertEqual(rows[k], expected, f"call {k}: {call}")

    def assert_last(self, calls, expected):
        self.assertEqual(run(calls)[-1], expected)

    def assert_refused(self, before, call, code, size=3):
        """The call answers the code alone, and what follows is as if it had not been."""
        self.assert_last(before + [call], [code])
        self.assert_same_later(before, before + [call], size)

    def assert_same_later(self, before, with_more, size=3):
        later = probes(size)
        plain = run(before + later)[len(before):]
        self.assertEqual(run(with_more + later)[len(with_more):], plain)

    def assert_state(self, calls, i, expected):
        self.assert_last(calls + [state(i)], expected)

    def list_of(self, calls, i):
        """Who is on i's list behind these calls, in order: (to, number)."""
        rows = run(calls + [lose(place) for place in range(64)] + [say(i)] * 15)[-15:]
        said = [read_message(row) for row in rows if row != [-4]]
        self.assertEqual(rows[len(said):], [[-4]] * (15 - len(said)))
        return [(one["to"], one["number"]) for one in said]
