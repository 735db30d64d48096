from tests.helper import CallTest, Play, begin, carry, forget, knot, lose, open_group, run, say, state, tick

THREE = [open_group(3), begin(0, 0, 0, 1, [1]), begin(1, 0, 0, 1, [2]), begin(2, 0, 0, 1, [3])]
PAIR = [open_group(2), begin(0, 0, 0, 1, [5]), begin(1, 0, 0, 1, [6])]


def whole(size):
    """All of a group are whole at number 0, with empty lists and places."""
    play = Play(size, [open_group(size)] + [begin(i, 3, 0, 1, [i]) for i in range(size)])
    play.round_of_messages()
    play.round_of_messages()
    return play.calls


class KnotTest(CallTest):

    def assert_knot(self, calls, expected):
        self.assert_last(calls + [knot()], expected)

    def test_no_group(self):
        self.assert_refused([], knot(), -1)
        self.assert_refused([open_group(0), open_group(9)], knot(), -1)

    def test_it_changes_nothing(self):
        for calls in ([open_group(3)], THREE + [say(0)], whole(3)):
            self.assert_same_later(calls, calls + [knot(), knot()])

    def test_all_idle(self):
        for n in range(1, 9):
            self.assert_knot([open_group(n)], [4])

    def test_a_group_of_one(self):
        self.assert_knot([open_group(1)], [4])
        self.assert_knot([open_group(1), begin(0, 0, 0, 1, [1])], [3])
        self.assert_knot([open_group(1), begin(0, 0, 0, 1, [1]), begin(0, 6, 0, 0, [])], [3])

    def test_all_whole_at_the_same_number(self):
        for n in (2, 3, 8):
            self.assert_knot(whole(n), [3])
        play = Play(2, whole(2) + [begin(0, 6, 0, 0, []), begin(1, 6, 0, 0, [])])
        self.assert_knot(play.calls, [0])
        play.round_of_messages()
        self.assert_knot(play.calls, [3])

    def test_messages_alone_are_wanted(self):
        self.assert_knot(THREE, [0])
        self.assert_knot(PAIR + [say(0), carry(0, 1)], [0])
        # All lists and places are empty: a tick brings messages again.
        self.assert_knot(PAIR + [say(0), say(1), lose(0), lose(1)], [0])
        # Some are whole, but one has forgotten.
        self.assert_knot(whole(3) + [forget(1)], [0])
        self.assert_knot(whole(2) + [begin(1, 6, 0, 0, []), forget(0)], [0])

    def test_the_first_idle_one(self):
        self.assert_knot([open_group(3), begin(0, 0, 0, 2, [1, 2]), begin(1, 0, 0, 2, [1, 2])], [1, 2, 0])
        self.assert_knot([open_group(3), begin(1, 6, 0, 0, [])], [1, 0, 0])
        self.assert_knot([open_group(3), begin(0, 6, 0, 0, [])], [1, 1, 0])
        self.assert_knot([open_group(8), begin(0, 6, 0, 0, [])], [1, 1, 0])
        self.assert_knot([open_group(2), begin(0, 6, 0, 0, []), say(0), carry(0, 1)], [1, 1, 0])

    def test_the_first_whole_one_where_one_is_further(self):
        self.assert_knot(whole(3) + [begin(0, 6, 0, 0, [])], [1, 1, 1])
        self.assert_knot(whole(3) + [begin(1, 6, 0, 0, [])], [1, 0, 1])
        self.assert_knot(whole(3) + [begin(0, 6, 0, 0, []), begin(1, 6, 0, 0, [])], [1, 2, 1])
        # One that has forgotten is not whole, so it's the next one that is told.
        self.assert_knot(whole(3) + [begin(1, 6, 0, 0, []), forget(0)], [1, 2, 1])

    def test_its_number_and_1_beyond_the_first_numbers(self):
        play = Play(2, whole(2))
        for number in (1, 2, 3):
            play.do([begin(0, 6, 0, 0, []), begin(1, 6, 0, 0, [])])
            play.round_of_messages()
            play.round_of_messages()
            self.assertEqual(play.peek([begin(1, 0, 0, 0, []), knot()]), [[number + 1], [1, 0, number + 1]])

    def test_the_member_that_is_told_can_begin_that_number(self):
        for calls in ([open_group(3), begin(1, 6, 0, 0, [])], whole(3) + [begin(0, 6, 0, 0, [])]):
            told = run(calls + [knot()])[-1]
            self.assert_last(calls + [begin(told[1], 6, 0, 0, [])], [told[2]])

    def test_another_meeting_at_the_lowest_number(self):
        # Nobody has been told of it yet: all are begun.
        self.assert_knot([open_group(2), begin(0, 0, 0, 1, [5]), begin(1, 1, 0, 1, [6])], [2, 1, 0])
        self.assert_knot([open_group(2), begin(0, 0, 0, 1, [5]), begin(1, 0, 0, 2, [6, 7])], [2, 1, 0])
        self.assert_knot([open_group(2), begin(0, 4, 0, 0, []), begin(1, 4, 1, 0, [])], [2, 1, 0])
        # The first at that number counts, not who came first, nor who are the most.
        calls = [open_group(3), begin(2, 1, 0, 1, [3]), begin(1, 1, 0, 1, [2]), begin(0, 0, 0, 1, [1])]
        self.assert_knot(calls, [2, 1, 0])
        calls = [open_group(3), begin(0, 0, 0, 1, [1]), begin(1, 0, 0, 1, [2]), begin(2, 1, 0, 1, [3])]
        self.assert_knot(calls, [2, 2, 0])

    def test_another_meeting_with_idle_ones_about(self):
        # The idle ones are at number 0, too, but the first that isn't idle is what counts.
        self.assert_knot([open_group(4), begin(1, 0, 0, 1, [5]), begin(3, 1, 0, 1, [6])], [2, 3, 0])
        self.assert_knot([open_group(4), begin(1, 0, 0, 1, [5]), begin(3, 0, 0, 1, [6])], [1, 0, 0])

    def test_another_meeting_at_a_higher_number_is_not_told_yet(self):
        # Members 0 and 1 begin unlike meetings of number 1, while 2 is still at 0.
        calls = whole(3) + [begin(0, 6, 0, 0, []), begin(1, 0, 0, 0, [])]
        self.assert_knot(calls, [1, 2, 1])
        self.assert_knot(calls + [forget(2)], [0])
        self.assert_knot(calls + [begin(2, 6, 0, 0, [])], [2, 1, 1])
        self.assert_knot(calls + [begin(2, 0, 0, 0, [])], [2, 1, 1])

    def test_the_meeting_of_one_further_on_is_not_held_against_it(self):
        # Member 0 is at number 1 with another meeting than those who are at number 0.
        calls = whole(3) + [begin(0, 6, 0, 0, []), forget(1), forget(2)]
        self.assert_knot(calls, [0])
        self.assert_knot(whole(3) + [begin(0, 6, 0, 0, [])], [1, 1, 1])

    def test_apart(self):
        calls = [open_group(2), begin(0, 0, 0, 1, [5]), begin(1, 1, 0, 1, [6]), say(0), say(1)]
        self.assert_knot(calls + [carry(0, 1)], [2, 1, 0])
        # Member 0 has the first meeting there, but it's apart: so it's the first.
        self.assert_knot(calls + [carry(1, 0)], [2, 0, 0])
        self.assert_knot(calls + [carry(0, 1), carry(1, 0)], [2, 0, 0])

    def test_the_first_of_the_apart_and_the_unlike(self):
        # Member 1 has another meeting than 0; member 2 is apart.
        calls = [open_group(3), begin(0, 0, 0, 1, [1]), begin(1, 1, 0, 1, [2]), begin(2, 0, 0, 1, [3])]
        calls += [say(1), say(1), carry(1, 2)]
        self.assert_last(calls, [5])
        self.assert_knot(calls, [2, 1, 0])
        # Here 1 is apart, though alike, and 2 has the other meeting.
        calls = [open_group(3), begin(0, 0, 0, 1, [1]), begin(1, 0, 0, 1, [2]), begin(2, 1, 0, 1, [3])]
        calls += [say(2), say(2), carry(1, 1)]
        self.assert_last(calls, [5])
        self.assert_knot(calls, [2, 1, 0])

    def test_apart_at_a_higher_number(self):
        calls = whole(3) + [begin(1, 6, 0, 0, []), begin(2, 0, 0, 0, []), say(2), say(2), carry(1, 1)]
        self.assert_last(calls, [5])
        # It's told before member 0, which is whole where others are further; with its own number.
        self.assert_knot(calls, [2, 1, 1])
        self.assert_knot(calls + [forget(0)], [2, 1, 1])
        self.assert_knot(calls + [forget(1)], [1, 0, 1])

    def test_2_before_1(self):
        # Member 0 is idle, 1 and 2 are unlike.
        calls = [open_group(3), begin(1, 0, 0, 1, [5]), begin(2, 1, 0, 1, [6])]
        self.assert_knot(calls, [2, 2, 0])
        self.assert_knot(calls + [say(1), say(1), carry(1, 2)], [2, 2, 0])
        self.assert_knot(calls + [say(2), say(2), carry(1, 1)], [2, 1, 0])

    def test_1_before_0(self):
        # Member 0 still lacks a part, and 2 is whole where 1 is further.
        calls = whole(3) + [begin(1, 6, 0, 0, []), forget(0), tick(0)]
        self.assertEqual(run(calls + [state(0)])[-1][0], 1)
        self.assert_knot(calls, [1, 2, 1])

    def test_forgetting_that_one_is_apart_does_not_hide_the_unlike(self):
        calls = [open_group(2), begin(0, 0, 0, 1, [5]), begin(1, 1, 0, 1, [6]), say(1), carry(0, 0)]
        self.assert_knot(calls, [2, 0, 0])
        self.assert_knot(calls + [forget(0)], [2, 1, 0])

    def test_a_new_group(self):
        self.assert_knot(PAIR + [open_group(2)], [4])
        self.assert_knot(PAIR + [open_group(0)], [0])
