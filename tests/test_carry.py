from meetwell.hall import Hall
from meetwell.meeting import Meeting
from meetwell.message import Message
from tests.helper import TOP, CallTest, begin, carry, lose, message, open_group, read_message, run, say, tick

THREE = [open_group(3), begin(0, 0, 0, 1, [1]), begin(1, 0, 0, 1, [2]), begin(2, 0, 0, 1, [3])]
PAIR = [open_group(2), begin(0, 0, 0, 1, [5]), begin(1, 0, 0, 1, [6])]
# Member 1 is at number 1, member 0 whole at 0; place 0 is 0's (has 0), place 1 is 1's (has all), both of number 0.
NEXT = PAIR + [say(0), carry(0, 1), say(1), carry(1, 0), begin(1, 6, 0, 0, [])]


class RefusedCarryTest(CallTest):

    def test_no_such_member_or_place(self):
        before = THREE + [say(0)]
        self.assert_refused([], carry(0, 0), -1)
        for i in (3, 8, TOP):
            self.assert_refused(before, carry(0, i), -1)
        for place in (64, 65, TOP):
            self.assert_refused(before, carry(place, 1), -1)

    def test_minus_1_before_minus_4(self):
        self.assert_last(THREE + [carry(5, 3)], [-1])
        self.assert_last(THREE + [carry(64, 3)], [-1])

    def test_no_message(self):
        for place in (1, 63):
            self.assert_refused(THREE + [say(0)], carry(place, 1), -4)
        self.assert_refused(THREE + [say(0), lose(0)], carry(0, 1), -4)

    def test_to_another_one(self):
        self.assert_refused(THREE + [say(0)], carry(0, 2), -3)
        self.assert_refused(THREE + [say(0)], carry(0, 0), -3)

    def test_to_another_one_comes_before_all_else(self):
        idle = [open_group(3), begin(0, 0, 0, 1, [1]), say(0)]
        self.assert_refused(idle, carry(0, 2), -3)
        self.assert_refused(NEXT, carry(1, 1), -3, 2)
        apart = [open_group(3), begin(0, 0, 0, 1, [1]), begin(1, 1, 0, 1, [2]), say(0), carry(0, 1), say(0)]
        self.assert_refused(apart, carry(1, 1), -3)


class NothingDoneTest(CallTest):

    def assert_nothing_done(self, before, call, code, size):
        # To do nothing is seen as a refusal is: what follows is the same.
        self.assert_refused(before, call, code, size)

    def test_2_for_an_idle_member(self):
        before = [open_group(3), begin(0, 0, 0, 1, [1]), say(0)]
        self.assert_nothing_done(before, carry(0, 1), 2, 3)

    def test_2_for_a_higher_number(self):
        before = NEXT + [say(1)]
        self.assertEqual(read_message(run(before)[-1])["number"], 1)
        self.assert_nothing_done(before, carry(2, 0), 2, 2)
        # Not even another meeting of a higher number parts one that's begun.
        before = THREE + [say(0), carry(0, 1), say(2), say(2), carry(2, 1), begin(1, 6, 0, 0, []), say(1), say(1), say(1)]
        self.assertEqual(read_message(run(before)[-1])["number"], 1)
        self.assert_nothing_done(before, carry(5, 0), 2, 3)

    def test_3_where_has_has_the_member(self):
        # Member 0 tells, whole at 0, that it has 1's part.
        before = PAIR + [say(1), carry(0, 0), say(0), carry(1, 1), begin(1, 6, 0, 0, [])]
        rows = run(before)
        self.assertEqual(read_message(rows[-3])["has"], [0, 1])
        self.assertEqual(rows[-1], [1])
        self.assert_nothing_done(before, carry(1, 1), 3, 2)

    def test_4_for_a_lower_number(self):
        # Place 0 is of number 0 and lacks 1, who gets to number 2.
        before = NEXT + [begin(0, 6, 0, 0, []), say(0), carry(2, 1), begin(1, 6, 0, 0, [])]
        self.assertEqual(run(before)[-1], [2])
        self.assert_nothing_done(before, carry(0, 1), 4, 2)

    def test_5_for_an_apart_member(self):
        # Member 2's meeting is that of member 1, but it comes too late.
        before = [open_group(3), begin(0, 0, 0, 1, [1]), begin(1, 1, 0, 1, [2]), begin(2, 1, 0, 1, [3])]
        before += [say(0), carry(0, 1), say(1), say(1), say(2), say(2)]
        self.assertEqual(read_message(run(before)[-1])["to"], 1)
        self.assert_nothing_done(before, carry(4, 1), 5, 3)
        self.assert_nothing_done(before, carry(0, 1), 5, 3)

    def test_5_for_a_whole_member_which_stays_as_it_is(self):
        # A whole member's others have all begun alike, so no list of calls makes such a message: it's laid by hand.
        hall = Hall()
        hall.open_group(2)
        hall.begin(0, Meeting(0, 0, 1), [5])
        hall.begin(1, Meeting(0, 0, 1), [6])
        hall.say(0)
        hall.say(1)
        self.assertEqual(hall.carry(1, 0), [0])
        hall.places[9] = Message(1, 0, 0, Meeting(1, 0, 1), [1], [7])
        owed = hall.members[0].owed_count()
        self.assertEqual(hall.carry(9, 0), [5])
        self.assertEqual(hall.members[0].owed_count(), owed)
        self.assertEqual(hall.members[0].parts, {0: [5], 1: [6]})
        self.assertEqual(hall.carry(1, 0), [1])
        self.assertEqual(hall.begin(0, Meeting(6, 0, 0), []), [1])


class DoneTest(CallTest):

    def test_3_where_has_lacks_the_member(self):
        self.assert_last(NEXT + [carry(0, 1)], [3])
        self.assertEqual(self.list_of(NEXT, 1), [(0, 1)])
        self.assertEqual(self.list_of(NEXT + [carry(0, 1)], 1), [(0, 0), (0, 1)])

    def test_3_puts_the_sender_on_the_list_once(self):
        self.assertEqual(self.list_of(NEXT + [carry(0, 1), carry(0, 1)], 1), [(0, 0), (0, 1)])

    def test_3_whatever_the_meeting_and_the_state(self):
        # Member 1 is begun, then apart, at number 1; the meeting of number 0 is not that of number 1.
        calls = NEXT + [begin(0, 3, 0, 0, []), say(0), carry(2, 1)]
        self.assert_last(calls, [5])
        self.assert_last(calls + [carry(0, 1)], [3])
        self.assertEqual(self.list_of(calls + [carry(0, 1)], 1), [(0, 0), (0, 1)])

    def test_5_another_meeting_in_op_root_or_count(self):
        for other in (begin(1, 1, 0, 2, [1, 2]), begin(1, 0, 0, 1, [1]), begin(1, 4, 0, 2, [])):
            before = [open_group(2), begin(0, 0, 0, 2, [5, 6]), other, say(0)]
            self.assert_last(before + [carry(0, 1)], [5])
            self.assert_last(before + [carry(0, 1), begin(1, 6, 0, 0, [])], [-8])
        roots = [open_group(3), begin(0, 4, 0, 0, []), begin(1, 4, 1, 0, []), say(0)]
        self.assert_last(roots + [carry(0, 1)], [5])

    def test_5_the_part_is_not_kept_and_the_list_stays(self):
        before = [open_group(2), begin(0, 0, 0, 1, [5]), begin(1, 1, 0, 1, [6]), say(0), say(1), carry(0, 1)]
        self.assert_last(before + [say(1)], [-4])
        self.assertEqual(read_message(run(before + [tick(1), say(1)])[-1])["has"], [1])

    def test_5_from_now_on(self):
        # The same meeting was kept before, and is not now.
        before = [open_group(3), begin(0, 0, 0, 1, [1]), begin(1, 1, 0, 1, [2]), begin(2, 1, 0, 1, [3]), say(0)]
        before += [say(2), say(2)]
        self.assert_last(before + [carry(2, 1)], [0])
        self.assert_last(before + [carry(0, 1), carry(2, 1)], [5])
        self.assert_last(before + [carry(2, 1), carry(0, 1), carry(2, 1)], [5])

    def test_5_again_for_the_same_message(self):
        before = [open_group(2), begin(0, 0, 0, 1, [5]), begin(1, 1, 0, 1, [6]), say(0), carry(0, 1)]
        self.assert_last(before + [carry(0, 1)], [5])

    def test_0_keeps_the_part_and_1_has_it(self):
        calls = THREE + [say(0), carry(0, 1), carry(0, 1), say(1)]
        rows = run(calls)
        self.assertEqual(rows[5:7], [[0], [1]])
        self.assertEqual(read_message(rows[7])["has"], [0, 1])

    def test_0_makes_whole_with_the_last_part_alone(self):
        calls = THREE + [say(0), say(2), say(2), carry(0, 1)]
        self.assert_last(calls + [begin(1, 6, 0, 0, [])], [-8])
        self.assert_last(calls + [carry(2, 1), begin(1, 6, 0, 0, [])], [1])

    def test_has_lacks_the_member_so_the_sender_is_on_the_list(self):
        calls = THREE + [say(1), say(1), say(0)]
        self.assertEqual(self.list_of(calls, 1), [])
        self.assertEqual(self.list_of(calls + [carry(2, 1)], 1), [(0, 0)])
        again = calls + [carry(2, 1), say(1)]
        self.assertEqual(self.list_of(again, 1), [])
        self.assert_last(again + [carry(2, 1)], [1])
        self.assertEqual(self.list_of(again + [carry(2, 1)], 1), [(0, 0)])

    def test_has_lacks_the_member_so_nothing_is_known(self):
        self.assert_last(PAIR + [say(0), carry(0, 1), say(1), tick(1)], [1])

    def test_has_has_the_member_so_it_is_known(self):
        calls = PAIR + [say(1), carry(0, 0), say(0), carry(1, 1)]
        self.assert_last(calls, [0])
        self.assertEqual(self.list_of(calls, 1), [])
        self.assert_last(calls + [tick(1)], [0])

    def test_known_by_a_message_whose_part_was_there_already(self):
        calls = PAIR + [say(0), say(1), carry(0, 1), carry(1, 0), say(0), say(1)]
        self.assertEqual(read_message(run(calls)[-2])["has"], [0, 1])
        self.assert_last(calls + [tick(1)], [1])
        self.assert_last(calls + [carry(2, 1)], [1])
        self.assert_last(calls + [carry(2, 1), tick(1)], [0])

    def test_known_stays_known_when_an_older_message_comes_late(self):
        # Place 0 is from before member 0 had 1's part.
        calls = PAIR + [say(0), say(1), carry(1, 0), say(0), carry(2, 1)]
        self.assert_last(calls, [0])
        self.assertEqual(self.list_of(calls, 1), [])
        calls += [carry(0, 1)]
        self.assert_last(calls, [1])
        self.assertEqual(self.list_of(calls, 1), [(0, 0)])
        self.assert_last(calls + [say(1), tick(1)], [0])

    def test_a_list_that_has_the_sender_is_not_cleared_by_knowing(self):
        calls = PAIR + [say(1), carry(0, 0), tick(1), say(0), carry(1, 1)]
        self.assertEqual(self.list_of(calls, 1), [(0, 0)])

    def test_a_whole_member_still_answers(self):
        calls = PAIR + [say(0), carry(0, 1), say(1), carry(0, 1)]
        self.assert_last(calls, [1])
        self.assertEqual(self.list_of(calls, 1), [(0, 0)])

    def test_the_message_stays_at_its_place(self):
        for calls, code in ((THREE + [say(0), carry(0, 1)], 0), (THREE + [say(0), carry(0, 1), carry(0, 1)], 1),
                            (THREE + [say(0), carry(0, 2)], -3), (NEXT + [carry(0, 1)], 3)):
            rows = run(calls + [message(0)])
            said = calls.index(say(0))
            self.assertEqual(rows[-2], [code])
            self.assertEqual(rows[-1], rows[said])
