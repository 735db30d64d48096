"""The calls state and list."""

from tests.helper import TOP, CallTest, begin, carry, forget, listed, open_group, run, say, state, tick

THREE = [open_group(3), begin(0, 0, 0, 1, [1]), begin(1, 0, 0, 1, [2]), begin(2, 0, 0, 1, [3])]
PAIR = [open_group(2), begin(0, 0, 0, 1, [5]), begin(1, 0, 0, 1, [6])]
# Member 1 is whole at 0, with 0 and 2 on its list, and begins the next.
ONE_AHEAD = THREE + [say(0), carry(0, 1), say(2), say(2), carry(2, 1), begin(1, 4, 2, 3, [])]


class StateTest(CallTest):

    def test_no_such_member(self):
        self.assert_refused([], state(0), -1)
        for i in (3, 8, TOP):
            self.assert_refused(THREE, state(i), -1)

    def test_idle(self):
        for n in (1, 3, 8):
            self.assert_state([open_group(n)], n - 1, [0, 0])
        # Others having begun, and a message that's come, do not change it.
        self.assert_state([open_group(3), begin(0, 6, 0, 0, []), say(0), carry(0, 1)], 1, [0, 0])

    def test_begun(self):
        self.assert_state([open_group(3), begin(1, 0, 0, 2, [7, 8])], 1, [1, 0, 0, 0, 2, 1, 1, 1])
        self.assert_state([open_group(3), begin(1, 4, 2, 64, [])], 1, [1, 0, 4, 2, 64, 1, 1, 1])
        self.assert_state([open_group(3), begin(0, 6, 0, 0, [])], 0, [1, 0, 6, 0, 0, 1, 0, 0])

    def test_whose_parts_rising(self):
        # The part of 2 comes before that of 0.
        calls = [open_group(4)] + [begin(i, 6, 0, 0, []) for i in range(4)]
        calls += [say(2), say(2), carry(1, 1)]
        self.assert_state(calls, 1, [1, 0, 6, 0, 0, 2, 1, 2, 1])
        calls += [say(0), carry(2, 1)]
        self.assert_state(calls, 1, [1, 0, 6, 0, 0, 3, 0, 1, 2, 1])

    def test_who_is_known_rising(self):
        # Member 1 is answered by 2 and then by 0, each having its part; 3's message lacks it.
        calls = [open_group(4)] + [begin(i, 6, 0, 0, []) for i in range(4)] + [say(1), say(1)]
        calls += [carry(0, 0), carry(1, 2), say(0), say(2), say(2), say(3), say(3), carry(4, 1), carry(6, 1)]
        self.assert_state(calls, 1, [1, 0, 6, 0, 0, 3, 1, 2, 3, 1, 2])
        self.assert_state(calls + [carry(2, 1)], 1, [2, 0, 6, 0, 0, 4, 0, 1, 2, 3, 0, 1, 2])

    def test_whole_though_nothing_is_known(self):
        self.assert_state(PAIR + [say(0), carry(0, 1)], 1, [2, 0, 0, 0, 1, 2, 0, 1, 1])

    def test_whole_and_all_known(self):
        calls = PAIR + [say(0), carry(0, 1), say(1), carry(1, 0)]
        self.assert_state(calls, 0, [2, 0, 0, 0, 1, 2, 0, 1, 0, 1])

    def test_whole_in_a_group_of_one(self):
        self.assert_state([open_group(1), begin(0, 0, 0, 1, [9])], 0, [2, 0, 0, 0, 1, 1, 0, 0])

    def test_apart(self):
        calls = [open_group(2), begin(0, 0, 0, 1, [5]), begin(1, 1, 0, 1, [6]), say(0), carry(0, 1)]
        self.assert_state(calls, 1, [3, 0, 1, 0, 1, 1, 1, 1])
        self.assert_state(calls, 0, [1, 0, 0, 0, 1, 1, 0, 0])

    def test_apart_keeps_what_it_had(self):
        calls = [open_group(3), begin(0, 0, 0, 1, [1]), begin(1, 1, 0, 1, [2]), begin(2, 1, 0, 1, [3])]
        calls += [say(1), say(1), carry(1, 2), say(2), say(2), carry(3, 1), say(0), carry(4, 1)]
        self.assert_state(calls, 1, [3, 0, 1, 0, 1, 2, 1, 2, 1, 2])

    def test_the_next_number(self):
        self.assert_state(ONE_AHEAD, 1, [1, 1, 4, 2, 3, 1, 1, 1])
        calls = PAIR + [say(0), carry(0, 1), begin(1, 6, 0, 0, []), say(1), carry(1, 0), begin(0, 1, 0, 0, [])]
        self.assert_state(calls, 0, [1, 1, 1, 0, 0, 1, 0, 0])
        calls += [say(0), carry(2, 1)]
        self.assert_state(calls, 1, [3, 1, 6, 0, 0, 1, 1, 1])

    def test_it_changes_nothing(self):
        before = THREE + [say(0), carry(0, 1)]
        self.assert_same_later(before, before + [state(0), state(1), state(2)])


class ListTest(CallTest):

    def test_no_such_member(self):
        self.assert_refused([], listed(0), -1)
        for i in (3, 8, TOP):
            self.assert_refused(THREE, listed(i), -1)

    def test_idle(self):
        self.assert_last([open_group(3), listed(2)], [0])
        self.assert_last([open_group(3), begin(0, 6, 0, 0, []), say(0), carry(0, 1), listed(1)], [0])

    def test_empty(self):
        self.assert_last(THREE + [say(0), say(0), listed(0)], [0])
        self.assert_last([open_group(1), begin(0, 6, 0, 0, []), listed(0)], [0])

    def test_for_its_own_number(self):
        self.assert_last(THREE + [listed(1)], [0, 0, 2])
        self.assert_last(THREE + [say(1), listed(1)], [0, 2])
        self.assert_last([open_group(8), begin(3, 6, 0, 0, []), listed(3)], [0, 0, 1, 2, 4, 5, 6, 7])

    def test_for_both(self):
        self.assert_last(ONE_AHEAD + [listed(1)], [2, 0, 2, 0, 2])
        self.assert_last(ONE_AHEAD + [say(1), listed(1)], [1, 2, 0, 2])
        self.assert_last(ONE_AHEAD + [say(1), say(1), say(1), listed(1)], [0, 2])

    def test_for_the_number_before_alone(self):
        calls = PAIR + [say(0), carry(0, 1), say(1), begin(1, 6, 0, 0, []), say(1), carry(0, 1)]
        self.assert_last(calls + [listed(1)], [1, 0])

    def test_rising_in_whatever_order_they_were_put_on_it(self):
        calls = [open_group(4)] + [begin(i, 6, 0, 0, []) for i in range(4)] + [say(1)] * 3
        # Places 3 to 8 hold what 0, 2 and 3 say to members 1 and others; 3's comes first.
        calls += [say(3), say(3), say(2), say(2), say(0), carry(4, 1), carry(7, 1), carry(6, 1)]
        self.assert_last(calls + [listed(1)], [0, 0, 2, 3])
        calls += [begin(1, 6, 0, 0, []), say(1), say(1), say(1)]
        self.assert_last(calls + [listed(1)], [0, 0, 2, 3])
        self.assert_last(calls + [carry(6, 1), carry(4, 1), carry(7, 1), listed(1)], [3, 0, 2, 3, 0, 2, 3])

    def test_as_tick_and_forget_leave_it(self):
        self.assert_last(THREE + [say(1), say(1), tick(1), listed(1)], [0, 0, 2])
        self.assert_last(THREE + [forget(1), listed(1)], [0])

    def test_as_say_takes_it(self):
        for calls in (THREE, ONE_AHEAD, ONE_AHEAD + [say(1)]):
            row = run(calls + [listed(1)])[-1]
            expected = [to for to, _ in self.list_of(calls, 1)]
            self.assertEqual(row[1:], expected)

    def test_it_changes_nothing(self):
        self.assert_same_later(ONE_AHEAD, ONE_AHEAD + [listed(0), listed(1), listed(2)])
