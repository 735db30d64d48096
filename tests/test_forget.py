from tests.helper import TOP, CallTest, begin, carry, forget, knot, listed, message, open_group, read_message
from tests.helper import result, run, say, state, tick

THREE = [open_group(3), begin(0, 0, 0, 1, [1]), begin(1, 0, 0, 1, [2]), begin(2, 0, 0, 1, [3])]
PAIR = [open_group(2), begin(0, 0, 0, 1, [5]), begin(1, 0, 0, 1, [6])]
# Both are whole and each knows that the other has its part; both lists are empty. Places 0 and 2 hold messages from 0,
# places 1 and 3 from 1; the later two have both parts.
PAIR_DONE = PAIR + [say(0), say(1), carry(0, 1), carry(1, 0), say(0), say(1), carry(2, 1), carry(3, 0)]


class RefusedForgetTest(CallTest):

    def test_no_such_member(self):
        self.assert_refused([], forget(0), -1)
        for i in (3, 8, TOP):
            self.assert_refused(THREE + [say(0), carry(0, 1)], forget(i), -1)

    def test_idle(self):
        self.assert_refused([open_group(3), begin(0, 6, 0, 0, []), say(0)], forget(1), -8)
        self.assert_refused([open_group(1)], forget(0), -8, 1)


class ForgetTest(CallTest):

    def test_from_begun(self):
        calls = THREE + [say(0), carry(0, 1)]
        self.assert_state(calls, 1, [1, 0, 0, 0, 1, 2, 0, 1, 1])
        self.assert_last(calls + [forget(1)], [0])
        self.assert_state(calls + [forget(1)], 1, [1, 0, 0, 0, 1, 1, 1, 1])

    def test_from_whole(self):
        self.assert_state(PAIR_DONE, 1, [2, 0, 0, 0, 1, 2, 0, 1, 0, 1])
        self.assert_last(PAIR_DONE + [forget(1)], [0])
        self.assert_state(PAIR_DONE + [forget(1)], 1, [1, 0, 0, 0, 1, 1, 1, 1])
        self.assert_last(PAIR_DONE + [forget(1), result(1)], [-3])

    def test_from_apart(self):
        # Member 1 has the part of 2 before it is told of another meeting by 0.
        calls = [open_group(3), begin(0, 0, 0, 1, [1]), begin(1, 1, 0, 1, [2]), begin(2, 1, 0, 1, [3])]
        calls += [say(0), say(2), say(2), carry(2, 1), carry(0, 1)]
        self.assert_state(calls, 1, [3, 0, 1, 0, 1, 2, 1, 2, 1])
        calls += [forget(1)]
        self.assert_last(calls, [0])
        self.assert_state(calls, 1, [1, 0, 1, 0, 1, 1, 1, 1])
        # It takes messages again: the one of its own meeting, and once more the one that parts it.
        self.assert_last(calls + [carry(2, 1)], [0])
        self.assert_last(calls + [carry(0, 1)], [5])
        self.assert_state(calls + [carry(0, 1)], 1, [3, 0, 1, 0, 1, 1, 1, 1])

    def test_the_list_is_empty_in_both_its_parts(self):
        # Member 1 is whole at 0 with 0 and 2 on its list, and begins the next.
        calls = THREE + [say(0), carry(0, 1), say(2), say(2), carry(2, 1), begin(1, 6, 0, 0, [])]
        self.assert_last(calls + [listed(1)], [2, 0, 2, 0, 2])
        calls += [forget(1)]
        self.assert_last(calls + [listed(1)], [0])
        self.assert_last(calls + [say(1)], [-4])
        self.assert_state(calls, 1, [1, 1, 6, 0, 0, 1, 1, 1])
        self.assert_last(calls + [tick(1)], [2])
        self.assert_last(calls + [tick(1), listed(1)], [0, 0, 2])

    def test_its_part_of_the_number_before_is_not_forgotten(self):
        calls = PAIR + [say(0), carry(0, 1), begin(1, 3, 0, 1, [77]), forget(1), carry(0, 1), say(1)]
        rows = run(calls)
        self.assertEqual(rows[-2], [3])
        self.assertEqual(rows[-1], [1, 1, 0, 0, 0, 0, 1, 2, 0, 1, 6])

    def test_its_own_part_is_not_forgotten(self):
        calls = PAIR_DONE + [forget(1), tick(1), say(1)]
        self.assert_last(calls, [4, 1, 0, 0, 0, 0, 1, 1, 1, 6])

    def test_twice(self):
        self.assert_answers([(call, answer[:1]) for call, answer in zip(PAIR, run(PAIR))] + [
            (forget(0), [0]), (forget(0), [0]), (state(0), [1, 0, 0, 0, 1, 1, 0, 0]), (listed(0), [0]),
        ])

    def test_others_do_not_forget(self):
        before = run(PAIR_DONE + [state(0), listed(0), result(0)])[-3:]
        self.assertEqual(run(PAIR_DONE + [forget(1), state(0), listed(0), result(0)])[-3:], before)

    def test_a_group_of_one_stays_whole(self):
        calls = [open_group(1), begin(0, 0, 0, 1, [5]), forget(0)]
        self.assert_last(calls, [0])
        self.assert_state(calls, 0, [2, 0, 0, 0, 1, 1, 0, 0])
        self.assert_last(calls + [result(0)], [0, 5])
        self.assert_last(calls + [listed(0)], [0])
        self.assert_last(calls + [knot()], [3])
        self.assert_last(calls + [begin(0, 6, 0, 0, [])], [1])
        self.assert_state(calls + [begin(0, 6, 0, 0, []), forget(0)], 0, [2, 1, 6, 0, 0, 1, 0, 0])

    def test_begin_behind_it_is_refused(self):
        self.assert_last(PAIR_DONE + [begin(1, 6, 0, 0, [])], [1])
        self.assert_refused(PAIR_DONE + [forget(1)], begin(1, 6, 0, 0, []), -8, 2)
        self.assert_refused(THREE + [forget(1)], begin(1, 6, 0, 0, []), -8)

    def test_messages_at_places_stay(self):
        rows = run(PAIR_DONE + [forget(0), forget(1), message(0), message(1), message(2), message(3)])
        said = [row for row in rows[:-4] if len(row) > 1]
        self.assertEqual(rows[-4:], said)
        self.assertEqual(len(said), 4)

    def test_the_parts_come_in_again_by_old_messages(self):
        calls = PAIR_DONE + [forget(1), carry(0, 1)]
        self.assert_last(calls, [0])
        self.assert_state(calls, 1, [2, 0, 0, 0, 1, 2, 0, 1, 1])
        self.assert_last(calls + [result(1)], [0, 11])
        self.assert_last(calls + [listed(1)], [0, 0])
        # Place 2 tells, too, that 0 has the part of 1.
        calls = PAIR_DONE + [forget(1), carry(2, 1)]
        self.assert_state(calls, 1, [2, 0, 0, 0, 1, 2, 0, 1, 0, 1])
        self.assert_last(calls + [listed(1)], [0])

    def test_the_parts_come_in_again_by_new_messages(self):
        # Member 0 knows that 1 has its part, so it says it only when 1's message shows that it doesn't.
        calls = PAIR_DONE + [forget(1), tick(0)]
        self.assert_last(calls, [0])
        calls += [tick(1), say(1), carry(4, 0)]
        self.assert_last(calls, [1])
        self.assert_last(calls + [listed(0)], [0, 1])
        calls += [say(0), carry(5, 1)]
        self.assert_last(calls, [0])
        self.assert_last(calls + [result(1)], [0, 11])

    def test_the_parts_come_in_again_from_one_that_is_a_number_further(self):
        calls = PAIR_DONE + [begin(1, 6, 0, 0, []), forget(0), tick(0), say(0), carry(4, 1)]
        self.assert_last(calls, [3])
        calls += [say(1)]
        self.assertEqual(read_message(run(calls)[-1])["number"], 0)
        calls += [carry(5, 0)]
        self.assert_last(calls, [0])
        self.assert_last(calls + [result(0)], [0, 11])
        self.assert_state(calls, 0, [2, 0, 0, 0, 1, 2, 0, 1, 0, 1])
