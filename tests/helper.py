"""Calls written by name, their answers split up, and a check that a refusal changes nothing."""

import unittest

from meetwell.desk import answers

TOP = 2 ** 32 - 1
NUMBER_COUNTS = {1: 1, 2: 4, 3: 1, 4: 2, 5: 1, 6: 1, 7: 1}


def open_group(n):
    return [1, n]


def begin(i, op, root, c, part):
    return [2, i, op, root, c, len(part)] + part


def say(i):
    return [3, i]


def carry(place, i):
    return [4, place, i]


def lose(place):
    return [5, place]


def message(place):
    return [6, place]


def tick(i):
    return [7, i]


def split(written):
    """One list for each call, out of the one list that is given back."""
    rows = []
    at = 0
    while at < len(written):
        end = at + 1 + written[at]
        if end > len(written):
            raise AssertionError("fewer numbers than were told")
        rows.append(written[at + 1:end])
        at = end
    return rows


def run(calls):
    flat = [number for call in calls for number in call]
    rows = split(answers(flat))
    if len(rows) != len(calls):
        raise AssertionError("not one answer for each call")
    return rows


def read_message(row):
    """The fields of what say and message answer."""
    has_end = 8 + row[7]
    return {
        "place": row[0], "from": row[1], "to": row[2], "number": row[3],
        "meeting": tuple(row[4:7]), "has": row[8:has_end], "part": row[has_end:],
    }


def probes(size):
    """Calls that bring to light what members, lists and places hold."""
    calls = [message(place) for place in range(64)]
    calls += [lose(63), lose(62)]
    for round_number in range(2):
        for member in range(size):
            for _ in range(2 * size):
                calls.append(say(member))
        for place in range(24):
            for member in range(size):
                calls.append(carry(place, member))
        calls += [tick(member) for member in range(size)]
    calls += [begin(member, 6, 0, 0, []) for member in range(size)]
    return calls


class CallTest(unittest.TestCase):

    def assert_answers(self, pairs):
        """pairs: each call with what it answers."""
        rows = run([call for call, _ in pairs])
        for k, (call, expected) in enumerate(pairs):
            self.assertEqual(rows[k], expected, f"call {k}: {call}")

    def assert_last(self, calls, expected):
        self.assertEqual(run(calls)[-1], expected)

    def assert_refused(self, before, call, code, size=3):
        """The call answers the code alone, and what follows is as if it had not been."""
        self.assert_last(before + [call], [code])
        self.assert_same_later(before, before + [call], size)

    def assert_same_later(self, before, with_more, size=3):
        later = probes(size)
        plain = run(before + later)[len(before):]
        self.assertEqual(run(with_more + later)[len(with_more):], plain)

    def list_of(self, calls, i):
        """Who is on i's list behind these calls, in order: (to, number)."""
        rows = run(calls + [lose(place) for place in range(64)] + [say(i)] * 15)[-15:]
        said = [read_message(row) for row in rows if row != [-4]]
        self.assertEqual(rows[len(said):], [[-4]] * (15 - len(said)))
        return [(one["to"], one["number"]) for one in said]
