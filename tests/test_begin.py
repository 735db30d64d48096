from meetwell.hall import Hall
from meetwell.meeting import Meeting
from tests.helper import TOP, CallTest, begin, carry, lose, open_group, part_length, read_message, run, say, tick

PAIR_BEGUN = [open_group(2), begin(0, 0, 0, 1, [5]), begin(1, 0, 0, 1, [6])]
# Member 1 is whole and still has 0 on its list.
ONE_WHOLE = PAIR_BEGUN + [say(0), carry(0, 1)]
APART = [open_group(3), begin(0, 0, 0, 1, [5]), begin(1, 1, 0, 1, [6]), say(0), carry(0, 1)]


class RefusedBeginTest(CallTest):

    def test_without_a_group(self):
        self.assert_refused([], begin(0, 6, 0, 0, []), -1)

    def test_no_such_member(self):
        for i in (3, 4, 8, TOP):
            self.assert_refused([open_group(3)], begin(i, 6, 0, 0, []), -1)

    def test_no_such_op(self):
        for op in (8, 9, TOP):
            self.assert_refused([open_group(3)], begin(0, op, 0, 0, []), -1)

    def test_root_is_no_member(self):
        for root in (3, 8, TOP):
            self.assert_refused([open_group(3)], begin(0, 4, root, 1, []), -1)

    def test_root_is_0_but_for_op_4(self):
        for op in (0, 1, 2, 3, 5, 6, 7):
            self.assert_refused([open_group(3)], begin(0, op, 1, 0, []), -1)

    def test_count_above_64(self):
        for op in (0, 1, 2, 3, 4, 7):
            part = [1] * part_length(op, 65, 3, True)
            self.assert_refused([open_group(3)], begin(0, op, 0, 65, part), -1)
        self.assert_refused([open_group(3)], begin(0, 5, 0, 65, [1] * 195), -1)
        self.assert_refused([open_group(3)], begin(0, 0, 0, TOP, []), -1)

    def test_count_not_0_for_op_6(self):
        for c in (1, 64):
            self.assert_refused([open_group(3)], begin(0, 6, 0, c, []), -1)
            self.assert_refused([open_group(3)], begin(0, 6, 0, c, [1] * c), -1)

    def test_number_beyond_the_values(self):
        for part in ([TOP + 1, 0], [0, TOP + 1], [0, 2 ** 33 - 1]):
            self.assert_refused([open_group(3)], begin(0, 0, 0, 2, part), -1)

    def test_part_of_another_length(self):
        for op in range(8):
            for c in ((0,) if op == 6 else (0, 1, 64)):
                length = part_length(op, c, 3, True)
                self.assert_refused([open_group(3)], begin(0, op, 0, c, [1] * (length + 1)), -3)
                if length > 0:
                    self.assert_refused([open_group(3)], begin(0, op, 0, c, [1] * (length - 1)), -3)
                    self.assert_refused([open_group(3)], begin(0, op, 0, c, []), -3)

    def test_op_4_on_the_root_and_on_another(self):
        before = [open_group(3)]
        self.assert_refused(before, begin(2, 4, 2, 2, []), -3)
        self.assert_refused(before, begin(2, 4, 2, 2, [1, 2, 3]), -3)
        self.assert_refused(before, begin(0, 4, 2, 2, [1, 2]), -3)
        self.assert_refused(before, begin(0, 4, 2, 2, [1]), -3)

    def test_begun_and_apart(self):
        self.assert_refused(PAIR_BEGUN, begin(0, 0, 0, 1, [9]), -8, 2)
        self.assert_refused(APART, begin(1, 0, 0, 1, [9]), -8)
        self.assert_refused(APART, begin(1, 1, 0, 1, [9]), -8)

    def test_minus_1_before_minus_3_before_minus_8(self):
        for before, i in ((PAIR_BEGUN, 0), (APART, 1)):
            self.assert_last(before + [begin(i, 0, 0, 1, [TOP + 1, 0])], [-1])
            self.assert_last(before + [begin(i, 8, 0, 1, [1, 2])], [-1])
            self.assert_last(before + [begin(i, 0, 1, 1, [1, 2])], [-1])
            self.assert_last(before + [begin(i, 6, 0, 1, [1, 2])], [-1])
            self.assert_last(before + [begin(i, 0, 0, 65, [1, 2])], [-1])
            self.assert_last(before + [begin(9, 0, 0, 1, [1, 2])], [-1])
            self.assert_last(before + [begin(i, 0, 0, 1, [1, 2])], [-3])
            self.assert_last(before + [begin(i, 0, 0, 1, [1])], [-8])
        self.assert_last([open_group(3), begin(0, 0, 0, 1, [TOP + 1, 0])], [-1])

    def test_whole_at_the_highest_number(self):
        # No list of calls is long enough to get there.
        hall = Hall()
        hall.open_group(1)
        self.assertEqual(hall.begin(0, Meeting(0, 0, 1), [3]), [0])
        hall.members[0].number = TOP - 1
        self.assertEqual(hall.begin(0, Meeting(0, 0, 1), [4]), [TOP])
        self.assertEqual(hall.begin(0, Meeting(0, 0, 1), [5]), [-6])
        self.assertEqual(hall.begin(0, Meeting(0, 0, 1), [5, 5]), [-3])
        self.assertEqual((hall.members[0].number, hall.members[0].parts), (TOP, {0: [4]}))


class GrantedBeginTest(CallTest):

    def test_each_op_and_length(self):
        for n in (1, 2, 3, 8):
            for op in range(8):
                for c in ((0,) if op == 6 else (0, 1, 64)):
                    for root in (range(n) if op == 4 else (0,)):
                        for i in {0, n - 1, root}:
                            part = list(range(part_length(op, c, n, i == root)))
                            self.assert_last([open_group(n), begin(i, op, root, c, part)], [0])

    def test_numbers_at_the_edges_of_the_values(self):
        calls = [open_group(2), begin(0, 3, 0, 2, [0, TOP]), say(0)]
        self.assertEqual(read_message(run(calls)[-1])["part"], [0, TOP])

    def test_all_others_are_on_the_list_then(self):
        calls = [open_group(4), begin(2, 6, 0, 0, [])]
        self.assertEqual(self.list_of(calls, 2), [(0, 0), (1, 0), (3, 0)])
        self.assertEqual(self.list_of(calls, 0), [])

    def test_from_whole_the_next_number(self):
        self.assert_last(ONE_WHOLE + [begin(1, 3, 0, 1, [8])], [1])
        self.assert_last(ONE_WHOLE + [begin(0, 3, 0, 1, [8])], [-8])

    def test_from_whole_the_list_is_now_for_the_number_before(self):
        calls = ONE_WHOLE + [begin(1, 3, 0, 1, [8])]
        self.assertEqual(self.list_of(calls, 1), [(0, 0), (0, 1)])

    def test_from_whole_nothing_is_known_of_others(self):
        # Member 1 has 0's part and knows that 0 has its own; at the next number it does not.
        calls = PAIR_BEGUN + [say(1), carry(0, 0), say(0), carry(1, 1)]
        self.assert_last(calls + [tick(1)], [0])
        calls += [begin(1, 6, 0, 0, []), say(1)]
        self.assertEqual(read_message(run(calls)[-1])["has"], [1])
        self.assert_last(calls + [tick(1)], [1])
        # Nor does it once it has 0's part there: 0's message lacks that of 1.
        calls += [begin(0, 6, 0, 0, []), say(0), carry(3, 1), say(1)]
        self.assertEqual(run(calls)[-2], [0])
        self.assert_last(calls + [say(1)], [-4])
        self.assert_last(calls + [tick(1)], [1])

    def test_what_was_for_the_number_before_is_gone(self):
        # Place 0 holds 0's message of number 0, which lacks 1's part.
        calls = ONE_WHOLE + [say(1), carry(1, 0), begin(1, 6, 0, 0, []), carry(0, 1)]
        self.assertEqual(self.list_of(calls, 1), [(0, 0), (0, 1)])
        calls += [begin(0, 6, 0, 0, []), say(0)]
        self.assertEqual(read_message(run(calls)[-1])["number"], 1)
        calls += [carry(2, 1)]
        self.assert_last(calls, [0])
        self.assertEqual(self.list_of(calls, 1), [(0, 0), (0, 1)])
        calls += [begin(1, 6, 0, 0, [])]
        self.assert_last(calls, [2])
        self.assertEqual(self.list_of(calls, 1), [(0, 1), (0, 2)])

    def test_in_a_group_of_one_it_is_whole_at_once(self):
        self.assert_answers([
            (open_group(1), [0]), (begin(0, 0, 0, 1, [5]), [0]), (tick(0), [0]), (say(0), [-4]),
            (begin(0, 5, 0, 1, [6]), [1]), (begin(0, 4, 0, 1, [6]), [2]), (begin(0, 7, 0, 1, [6, 1]), [3]),
            (say(0), [-4]), (begin(0, 6, 0, 0, []), [4]), (lose(0), [-4]),
        ])

    def test_members_may_begin_unlike_meetings(self):
        self.assert_answers([
            (open_group(3), [0]), (begin(2, 4, 1, 3, []), [0]), (begin(0, 5, 0, 2, [1] * 6), [0]),
            (begin(1, 4, 1, 3, [1, 2, 3]), [0]),
        ])
