from tests.helper import TOP, CallTest, begin, carry, open_group, say, tick

PAIR = [open_group(2), begin(0, 0, 0, 1, [5]), begin(1, 0, 0, 1, [6])]


class TickTest(CallTest):

    def test_no_such_member(self):
        self.assert_refused([], tick(0), -1)
        for i in (2, 8, TOP):
            self.assert_refused(PAIR, tick(i), -1, 2)

    def test_idle(self):
        self.assert_refused([open_group(3), begin(0, 6, 0, 0, []), say(0)], tick(1), -8)

    def test_who_is_not_known_to_have_its_part(self):
        # Member 1 has 0's part, and nothing is known of 0.
        calls = PAIR + [say(0), say(1), carry(0, 1), say(1)]
        self.assertEqual(self.list_of(calls, 1), [])
        self.assert_last(calls + [tick(1)], [1])
        self.assertEqual(self.list_of(calls + [tick(1)], 1), [(0, 0)])

    def test_whose_part_it_lacks(self):
        # In a group of three, 1 has all of 0 and knows it; 2 is the one that's lacked.
        calls = [open_group(3), begin(0, 6, 0, 0, []), begin(1, 6, 0, 0, []), say(1), carry(0, 0), say(0), carry(1, 1)]
        calls += [say(1)]
        self.assertEqual(self.list_of(calls, 1), [])
        self.assert_last(calls + [tick(1)], [1])
        self.assertEqual(self.list_of(calls + [tick(1)], 1), [(2, 0)])

    def test_what_else_is_on_the_list_stays(self):
        # Member 1 knows all it needs of 0, who is on its list all the same.
        calls = PAIR + [say(0), say(1), carry(1, 0), say(0), carry(2, 1)]
        self.assert_last(calls + [tick(1)], [0])
        calls += [carry(0, 1)]
        self.assertEqual(self.list_of(calls, 1), [(0, 0)])
        self.assert_last(calls + [tick(1)], [1])
        self.assertEqual(self.list_of(calls + [tick(1)], 1), [(0, 0)])

    def test_the_number_before_is_counted_and_stays(self):
        calls = PAIR + [say(0), carry(0, 1), begin(1, 6, 0, 0, []), tick(1)]
        self.assert_last(calls, [2])
        self.assertEqual(self.list_of(calls, 1), [(0, 0), (0, 1)])

    def test_nobody_is_put_on_it_for_the_number_before(self):
        calls = PAIR + [say(0), carry(0, 1), say(1), begin(1, 6, 0, 0, []), say(1), tick(1)]
        self.assert_last(calls, [1])
        self.assertEqual(self.list_of(calls, 1), [(0, 1)])

    def test_at_most_once_each(self):
        calls = [open_group(4), begin(2, 6, 0, 0, []), tick(2), tick(2)]
        self.assert_last(calls, [3])
        self.assertEqual(self.list_of(calls, 2), [(0, 0), (1, 0), (3, 0)])

    def test_all_is_known(self):
        # Member 0 has 1's part, and 1 has told that it has 0's.
        calls = PAIR + [say(0), carry(0, 1), say(1), carry(1, 0)]
        self.assert_last(calls + [tick(0)], [0])
        self.assertEqual(self.list_of(calls + [tick(0)], 0), [])

    def test_apart(self):
        calls = [open_group(2), begin(0, 0, 0, 1, [5]), begin(1, 1, 0, 1, [6]), say(0), say(1), carry(0, 1), tick(1)]
        self.assert_last(calls, [1])
        self.assertEqual(self.list_of(calls, 1), [(0, 0)])

    def test_a_group_of_one(self):
        self.assert_last([open_group(1), begin(0, 6, 0, 0, []), tick(0)], [0])
