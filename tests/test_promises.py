"""N1 to N5, by runs in which messages are lost, carried twice, late and to the wrong one, and members forget."""

import random

from tests.helper import CallTest, Play, begin, carry, expected_result, forget, knot, lose, of, open_group, part_length
from tests.helper import read_message, result, run, say, tick

STEPS = 200
SEEDS = range(24)


class StrayPlay:
    """A group that is played with at random, though the same in every run, and what was brought to it.

    Every third seed has members that now and then begin another meeting than the others.
    """

    def __init__(self, test, seed):
        self.test = test
        self.source = random.Random(seed)
        self.size = self.source.randrange(2, 6)
        self.play = Play(self.size, [open_group(self.size)])
        self.unlike_at_times = seed % 3 == 0
        self.plan = []
        self.brought = {}
        self.meeting_of = {}
        self.lying = {}
        self.seen = {}

    def count(self, what):
        self.seen[what] = self.seen.get(what, 0) + 1

    def random_meeting(self):
        op = self.source.randrange(8)
        root = self.source.randrange(self.size) if op == 4 else 0
        return op, root, 0 if op == 6 else self.source.randrange(4)

    def meeting_for(self, number):
        while len(self.plan) <= number:
            self.plan.append(self.random_meeting())
        if self.unlike_at_times and self.source.randrange(15) == 0:
            return self.random_meeting()
        return self.plan[number]

    def begin_one(self, member, number):
        op, root, c = self.meeting_for(number)
        length = part_length(op, c, self.size, member == root)
        part = [self.source.choice((self.source.randrange(9), 2 ** 32 - 1 - self.source.randrange(9), 2 ** 31))
                for _ in range(length)]
        given = self.play.answer(begin(member, op, root, c, part))
        if given != [-8]:
            self.test.assertEqual(given, [number])
            self.brought[(member, number)] = part
            self.meeting_of[(member, number)] = (op, root, c)
        return given

    def begin_any(self):
        member = self.source.randrange(self.size)
        before = self.play.states()[member]
        given = self.begin_one(member, 0 if before["state"] == 0 else before["number"] + 1)
        self.test.assertEqual(given == [-8], before["state"] in (1, 3))

    def say_any(self):
        given = self.play.answer(say(self.source.randrange(self.size)))
        if len(given) > 1:
            one = read_message(given)
            self.lying[one["place"]] = one
            # What is said is what was brought to that number, by one that it can have come from.
            self.test.assertEqual(one["part"], self.brought[(one["from"], one["number"])])
            for member in one["has"]:
                self.test.assertEqual(self.meeting_of[(member, one["number"])], one["meeting"])

    def carry_any(self):
        if not self.lying:
            return
        one = self.lying[self.source.choice(sorted(self.lying))]
        wrong = self.source.randrange(8) == 0
        member = self.source.randrange(self.size) if wrong else one["to"]
        before = self.play.states()
        code = self.play.answer(carry(one["place"], member))[0]
        after = self.play.states()
        self.count(("carry", code))
        self.check_taken(one, member, code, before, after)

    def check_taken(self, one, member, code, before, after):
        """N2: a part is taken only at its own number and meeting, by the one that it is for."""
        taken = [k for k in after[member]["parts"] if k not in before[member]["parts"]]
        self.test.assertEqual(taken, [one["from"]] if code == 0 else [])
        if code in (0, 1):
            self.test.assertEqual(one["to"], member)
            self.test.assertEqual(one["number"], before[member]["number"])
            self.test.assertEqual(one["meeting"], before[member]["meeting"])
        for k in range(self.size):
            if k != member:
                self.test.assertEqual(after[k], before[k])

    def lose_any(self):
        if self.lying:
            place = self.source.choice(sorted(self.lying))
            self.test.assertEqual(self.play.answer(lose(place)), [0])
            self.lying.pop(place)

    def forget_any(self):
        member = self.source.randrange(self.size)
        before = self.play.states()[member]
        given = self.play.answer(forget(member))
        self.test.assertEqual(given, [-8 if before["state"] == 0 else 0])
        self.count(("forget", before["state"]))

    def step(self):
        kind = self.source.randrange(40)
        if kind < 9:
            self.begin_any()
        elif kind < 18:
            self.say_any()
        elif kind < 32:
            self.carry_any()
        elif kind < 35:
            self.lose_any()
        elif kind < 39:
            self.play.answer(tick(self.source.randrange(self.size)))
        else:
            self.forget_any()

    def check(self):
        states = self.play.states()
        self.check_distance(states)
        self.check_results(states)
        told = self.play.peek([knot()])[0]
        self.test.assertEqual(told, expected_knot(states))
        self.count(("knot", told[0]))

    def check_distance(self, states):
        """N4."""
        numbers = [one["number"] for one in states]
        self.test.assertLessEqual(max(numbers) - min(numbers), 1)
        self.seen["number"] = max([self.seen.get("number", 0)] + numbers)

    def check_results(self, states):
        """N1."""
        rows = self.play.peek([result(member) for member in range(self.size)])
        for member, one in enumerate(states):
            if one["state"] != 2:
                self.test.assertEqual(rows[member], [-3])
                continue
            op, root, c = one["meeting"]
            parts = [self.brought[(k, one["number"])] for k in range(self.size)]
            self.test.assertEqual(rows[member], [0] + expected_result(op, root, c, member, parts))
            joined = [number for part in parts for number in part]
            self.test.assertEqual(rows[member], run([of(op, root, c, self.size, member, joined)])[0])
            self.count(("result", op))

    def go(self):
        for _ in range(STEPS):
            self.step()
            self.check()
        return self

    def lose_most(self):
        """So that there are places for rounds of messages; some stay to come late."""
        for place in sorted(self.lying)[4:]:
            self.play.answer(lose(place))
            self.lying.pop(place)

    def late_ones_come(self):
        self.play.do([carry(place, member) for place in self.lying for member in range(self.size)])


def expected_knot(states):
    """The document's words once more, over what state tells."""
    lowest = min(one["number"] for one in states)
    there = [one for one in states if one["number"] == lowest and one["state"] != 0]
    for member, one in enumerate(states):
        unlike = one in there and one["meeting"] != there[0]["meeting"]
        if one["state"] == 3 or unlike:
            return [2, member, one["number"]]
    for member, one in enumerate(states):
        if one["state"] == 0 and any(other["state"] != 0 for other in states):
            return [1, member, 0]
        if one["state"] == 2 and any(other["number"] > one["number"] for other in states):
            return [1, member, one["number"] + 1]
    if {(one["state"], one["number"]) for one in states} == {(2, lowest)}:
        return [3]
    return [4] if {one["state"] for one in states} == {0} else [0]


class PromisesTest(CallTest):

    def test_whatever_becomes_of_the_messages(self):
        """N1, N2 and N4 at each step of each play, and what knot tells; then N3 and N5 from where it got to."""
        seen = {}
        for seed in SEEDS:
            with self.subTest(seed=seed):
                stray = StrayPlay(self, seed).go()
                self.check_two_rounds(stray)
                self.check_knot_leads_on(stray)
                highest = max(seen.get("number", 0), stray.seen["number"])
                seen.update(stray.seen)
                seen["number"] = highest
        # Else nothing would have been seen.
        wanted = [("carry", code) for code in (-3, 0, 1, 2, 3, 4, 5)] + [("forget", before) for before in range(4)]
        wanted += [("result", op) for op in range(8)] + [("knot", code) for code in range(5)]
        self.assertEqual([what for what in wanted if what not in seen], [])
        self.assertGreater(seen["number"], 3)

    def check_two_rounds(self, stray):
        """N3."""
        stray.lose_most()
        for member, one in enumerate(stray.play.states()):
            if one["state"] == 0:
                stray.begin_one(member, 0)
        stray.late_ones_come()
        states = stray.play.states()
        lowest = min(one["number"] for one in states)
        if len({stray.meeting_of[(k, lowest)] for k in range(stray.size)}) > 1:
            self.assertTrue(stray.unlike_at_times)
            return
        stray.play.round_of_messages()
        stray.play.round_of_messages()
        for before, after in zip(states, stray.play.states()):
            self.assertEqual(after["number"], before["number"])
            if after["number"] == lowest:
                self.assertEqual(after["state"], 2)
        stray.check()

    def check_knot_leads_on(self, stray):
        """N5: to do what knot tells, and nothing else, brings all together, or to a member in another meeting."""
        for _ in range(stray.size + 3):
            told = stray.play.peek([knot()])[0]
            if told[0] == 1:
                self.assertEqual(stray.begin_one(told[1], told[2]), [told[2]])
            elif told[0] == 0:
                before = stray.play.states()
                stray.play.round_of_messages()
                stray.play.round_of_messages()
                self.assertNotEqual(stray.play.states(), before)
                self.assertNotEqual(stray.play.peek([knot()]), [[0]])
            else:
                break
        stray.check()
        if told[0] == 2:
            self.assertTrue(stray.unlike_at_times)
            self.assertEqual(stray.play.states()[told[1]]["number"], told[2])
            self.assertEqual(stray.play.peek([begin(told[1], 6, 0, 0, [])]), [[-8]])
        else:
            self.assertEqual(told, [3])

    def test_two_rounds_in_the_largest_group(self):
        # All that was said first is lost, and some have forgotten what had come.
        play = Play(8, [open_group(8)] + [begin(i, 3, 0, 1, [i]) for i in range(8)])
        play.do([say(i) for i in range(8) for _ in range(7)])
        play.do([carry(place, i) for place in range(0, 56, 3) for i in range(8)])
        play.do([lose(place) for place in range(56)] + [forget(2), forget(5)])
        play.round_of_messages()
        play.round_of_messages()
        rows = play.peek([result(i) for i in range(8)] + [knot()])
        self.assertEqual(rows, [[0] + list(range(8))] * 8 + [[3]])

    def test_two_rounds_with_all_known_by_those_that_forgot_nothing(self):
        # Those who know that 0 has their part say nothing to it before they have heard of it.
        play = Play(3, [open_group(3)] + [begin(i, 3, 0, 1, [i]) for i in range(3)])
        play.round_of_messages()
        play.round_of_messages()
        play.do([forget(0)])
        self.assertEqual(play.peek([tick(1), tick(2)]), [[0], [0]])
        play.round_of_messages()
        self.assertEqual(play.peek([result(0)]), [[-3]])
        play.round_of_messages()
        self.assertEqual(play.peek([result(0)]), [[0, 0, 1, 2]])

    def test_two_rounds_where_all_others_are_a_number_further(self):
        play = Play(3, [open_group(3)] + [begin(i, 3, 0, 1, [i]) for i in range(3)])
        play.round_of_messages()
        play.round_of_messages()
        play.do([begin(1, 6, 0, 0, []), begin(2, 0, 0, 0, []), say(1), say(1), carry(1, 2), forget(0)])
        self.assertEqual(play.states()[2]["state"], 3)
        play.do([lose(0), lose(1)])
        play.round_of_messages()
        play.round_of_messages()
        self.assertEqual(play.peek([result(0)]), [[0, 0, 1, 2]])

    def test_the_part_of_another_number_is_not_taken(self):
        # Both numbers have the same meeting; place 0 holds 0's part of number 0.
        calls = [open_group(2), begin(0, 3, 0, 1, [5]), begin(1, 3, 0, 1, [6]), say(0), carry(0, 1), say(1), carry(1, 0)]
        calls += [begin(1, 3, 0, 1, [8])]
        self.assert_last(calls + [carry(0, 1)], [3])
        self.assert_state(calls + [carry(0, 1)], 1, [1, 1, 3, 0, 1, 1, 1, 1])
        # Nor that of a number ahead: place 2 holds 1's part of number 1, and 0 has forgotten that of number 0.
        calls += [say(1), forget(0)]
        self.assert_last(calls + [carry(2, 0)], [2])
        self.assert_state(calls + [carry(2, 0)], 0, [1, 0, 3, 0, 1, 1, 0, 0])
        self.assert_last(calls + [carry(1, 0), result(0)], [0, 5, 6])

    def test_nobody_gets_two_numbers_ahead(self):
        play = Play(3, [open_group(3)] + [begin(i, 3, 0, 1, [i]) for i in range(3)])
        play.round_of_messages()
        play.do([begin(0, 6, 0, 0, []), begin(1, 6, 0, 0, [])])
        for _ in range(3):
            play.round_of_messages()
            self.assertEqual(play.peek([begin(0, 6, 0, 0, []), begin(1, 6, 0, 0, [])]), [[-8], [-8]])
        self.assertEqual(play.peek([knot()]), [[1, 2, 1]])
