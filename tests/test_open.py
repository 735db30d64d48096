from tests.helper import CallTest, begin, carry, lose, message, open_group, run, say, tick


class OpenTest(CallTest):

    def test_sizes_that_are_granted(self):
        for n in range(1, 9):
            self.assert_answers([(open_group(n), [0]), (tick(n - 1), [-8]), (tick(n), [-1])])

    def test_sizes_that_are_refused_with_no_group(self):
        for n in (0, 9, 2 ** 32 - 1):
            self.assert_answers([(open_group(n), [-1]), (tick(0), [-1])])

    def test_sizes_that_are_refused_leave_the_group(self):
        before = [open_group(3), begin(0, 0, 0, 1, [7]), begin(1, 0, 0, 1, [8]), say(0), carry(0, 1)]
        for n in (0, 9, 10, 2 ** 32 - 1):
            self.assert_refused(before, open_group(n), -1)

    def test_a_second_open_gives_a_new_group(self):
        calls = [open_group(3), begin(0, 6, 0, 0, []), say(0), say(0), open_group(2)]
        self.assert_same_later([open_group(2)], calls, 2)

    def test_a_second_open_empties_all_places(self):
        calls = [open_group(8), begin(0, 6, 0, 0, [])]
        for _ in range(10):
            calls += [say(0)] * 7 + [tick(0)]
        calls = calls + [open_group(8)] + [message(place) for place in range(64)]
        self.assertEqual(run(calls)[-64:], [[-4]] * 64)

    def test_new_members_are_idle_at_number_0(self):
        calls = [open_group(2), begin(0, 6, 0, 0, []), begin(1, 6, 0, 0, []), say(0), carry(0, 1)]
        calls += [begin(1, 6, 0, 0, []), open_group(2)]
        self.assert_last(calls + [tick(1)], [-8])
        self.assert_last(calls + [say(1)], [-4])
        self.assert_last(calls + [begin(1, 6, 0, 0, [])], [0])

    def test_a_new_object_has_no_group_and_no_messages(self):
        self.assert_answers([
            (begin(0, 6, 0, 0, []), [-1]), (say(0), [-1]), (carry(0, 0), [-1]), (tick(0), [-1]),
            (lose(0), [-4]), (lose(63), [-4]), (message(0), [-4]), (message(63), [-4]),
        ])
