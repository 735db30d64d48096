"""The interface of answers, the document's examples, and what holds whatever becomes of the messages."""

import random
import unittest

from meetwell.desk import answers
from tests.helper import CallTest, begin, carry, lose, message, open_group, read_message, run, say, tick


class InterfaceTest(CallTest):

    def test_no_calls(self):
        self.assertEqual(answers([]), [])

    def test_how_many_numbers_then_these(self):
        calls = [1, 2, 2, 0, 0, 0, 2, 2, 7, 8, 3, 0, 4, 0, 1, 6, 0, 7, 0, 5, 0, 6, 0]
        said = [11, 0, 0, 1, 0, 0, 0, 2, 1, 0, 7, 8]
        self.assertEqual(answers(calls), [1, 0, 1, 0] + said + [1, 2] + said + [1, 1, 1, 0, 1, -4])

    def test_a_row_is_passed_over_whole_though_it_is_refused(self):
        long_row = begin(0, 0, 0, 2, [1, 2] * 300)
        self.assert_answers([(open_group(2), [0]), (long_row, [-3]), (tick(0), [-8])])
        self.assert_answers([(begin(0, 9, 9, 99, [1, 1, 9, 2]), [-1]), (tick(0), [-1])])

    def test_whole_numbers_in_a_list(self):
        given = answers([1, 2, 2, 0, 0, 0, 1, 1, 5, 3, 0, 4, 0, 1, 4, 0, 0])
        self.assertIs(list, given.__class__)
        self.assertEqual({number.__class__ for number in given}, {int})

    def test_what_is_handed_in_stays(self):
        calls = [1, 2, 2, 0, 0, 0, 2, 2, 7, 8, 2, 1, 0, 0, 2, 2, 9, 10, 3, 0, 4, 0, 1, 7, 1, 3, 1, 5, 0]
        copy = list(calls)
        given = answers(calls)
        self.assertEqual(calls, copy)
        given.clear()
        self.assertEqual(calls, copy)

    def test_nothing_is_kept(self):
        calls = [1, 2, 2, 0, 0, 0, 1, 1, 5, 3, 0]
        first = answers(calls)
        self.assertEqual(answers([3, 0, 6, 0, 7, 0]), [1, -1, 1, -4, 1, -1])
        self.assertEqual(answers(calls), first)

    def test_a_thousand_calls(self):
        calls = [open_group(2), begin(0, 6, 0, 0, [])] + [say(0), lose(0), tick(0)] * 332 + [message(0), say(1)]
        self.assertEqual(len(calls), 1000)
        said = [0, 0, 1, 0, 6, 0, 0, 1, 0]
        self.assertEqual(run(calls), [[0], [0]] + [said, [0], [1]] * 332 + [[-4], [-4]])


class ExampleTest(CallTest):

    def test_the_document(self):
        calls = [
            (open_group(3), [0]),
            (begin(0, 0, 0, 2, [1, 2]), [0]),
            (begin(1, 0, 0, 2, [10, 20]), [0]),
            (say(0), [0, 0, 1, 0, 0, 0, 2, 1, 0, 1, 2]),
            (carry(0, 1), [0]),
            (carry(0, 1), [1]),
            (carry(0, 2), [-3]),
            (say(0), [1, 0, 2, 0, 0, 0, 2, 1, 0, 1, 2]),
            (carry(1, 2), [2]),
            (begin(2, 0, 0, 2, [100, 200]), [0]),
        ]
        self.assert_answers(calls)
        play = Play(3, [call for call, _ in calls])
        play.round_of_messages()
        play.round_of_messages()
        self.assertEqual(play.answer(begin(1, 6, 0, 0, [])), [1])
        # Place 0 is as what 0 would say had it forgotten all: of number 0, and its has lacks 1.
        self.assertEqual(play.answer(carry(0, 1)), [3])
        self.assertEqual(play.answer(tick(1)), [3])
        said = [read_message(play.answer(say(1))) for _ in range(3)]
        self.assertEqual([(one["to"], one["number"]) for one in said], [(0, 0), (0, 1), (2, 1)])
        self.assertEqual(said[0]["part"], [10, 20])
        self.assertEqual(said[0]["has"], [0, 1, 2])


class Play:
    """Calls added one by one, so that the next may hang on the last answer."""

    def __init__(self, size, calls):
        self.size = size
        self.calls = list(calls)

    def answer(self, call):
        self.calls.append(call)
        return run(self.calls)[-1]

    def round_of_messages(self):
        """Each ticks, says its whole list, and all that's carried."""
        said = []
        for member in range(self.size):
            for _ in range(self.answer(tick(member))[0]):
                said.append(read_message(self.answer(say(member))))
        for one in said:
            self.answer(carry(one["place"], one["to"]))
        for one in said:
            self.answer(lose(one["place"]))


class WhateverBecomesOfMessagesTest(unittest.TestCase):

    def stray_call(self, source, size):
        """A call that says, carries, loses or ticks, at random but the same in every run."""
        kind = source.randrange(20)
        member = source.randrange(size)
        place = source.randrange(6)
        if kind < 4:
            return say(member)
        if kind < 15:
            return carry(place, member)
        return lose(place) if kind < 18 else tick(member)

    def play_through(self, seed):
        source = random.Random(seed)
        size = source.randrange(2, 5)
        play = Play(size, [open_group(size)])
        number_of = [None] * size
        brought = {}
        for _ in range(250):
            if source.randrange(4) == 0:
                self.begin_one(source, play, number_of, brought)
            else:
                self.stray(source, play, brought)
            self.check_distance(number_of)
        return play, number_of, brought

    def begin_one(self, source, play, number_of, brought):
        member = source.randrange(play.size)
        expected = 0 if number_of[member] is None else number_of[member] + 1
        part = [source.randrange(1000)]
        given = play.answer(begin(member, 3, 0, 1, part))
        if given != [-8]:
            self.assertEqual(given, [expected])
            number_of[member] = expected
            brought[(member, expected)] = part

    def stray(self, source, play, brought):
        call = self.stray_call(source, play.size)
        given = play.answer(call)
        if call[0] == 3 and len(given) > 1:
            one = read_message(given)
            self.assertEqual(one["part"], brought[(one["from"], one["number"])])
            for member in one["has"]:
                self.assertIn((member, one["number"]), brought)

    def check_distance(self, number_of):
        at = [0 if number is None else number for number in number_of]
        self.assertLessEqual(max(at) - min(at), 1)

    def test_members_are_never_more_than_one_number_apart(self):
        reached = []
        for seed in range(8):
            _, number_of, _ = self.play_through(seed)
            reached.append(max(number_of))
        # Else nothing would have been seen.
        self.assertGreater(max(reached), 2)

    def test_two_rounds_make_all_whole_at_the_lowest_number(self):
        for seed in range(8):
            play, number_of, _ = self.play_through(seed)
            for place in range(64):
                play.calls.append(lose(place))
            for member in range(play.size):
                if number_of[member] is None:
                    self.assertEqual(play.answer(begin(member, 3, 0, 1, [5])), [0])
                    number_of[member] = 0
            play.round_of_messages()
            play.round_of_messages()
            lowest = min(number_of)
            for member in range(play.size):
                if number_of[member] == lowest:
                    self.assertEqual(play.answer(begin(member, 3, 0, 1, [6])), [lowest + 1])
