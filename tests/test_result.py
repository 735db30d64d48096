from tests.helper import TOP, CallTest, Play, begin, carry, expected_result, forget, open_group, part_length
from tests.helper import result, run, say

PAIR = [open_group(2), begin(0, 0, 0, 1, [5]), begin(1, 0, 0, 1, [6])]


def held(op, root, c, parts):
    """A meeting to which those parts are brought, with all whole; begun from the last member on."""
    size = len(parts)
    begins = [begin(i, op, root, c, parts[i]) for i in range(size)]
    play = Play(size, [open_group(size)] + begins[::-1])
    play.round_of_messages()
    return play


class RefusedResultTest(CallTest):

    def test_no_such_member(self):
        self.assert_refused([], result(0), -1)
        for i in (2, 8, TOP):
            self.assert_refused(PAIR, result(i), -1, 2)

    def test_idle(self):
        self.assert_refused([open_group(2)], result(0), -3, 2)
        self.assert_refused([open_group(1)], result(0), -3, 1)

    def test_begun(self):
        self.assert_refused(PAIR, result(0), -3, 2)
        # One part of three is still lacked.
        calls = [open_group(3)] + [begin(i, 0, 0, 1, [i]) for i in range(3)] + [say(0), carry(0, 1)]
        self.assert_refused(calls, result(1), -3)
        # Nor is one that's begun the next number whole any more.
        calls = PAIR + [say(0), carry(0, 1), begin(1, 6, 0, 0, [])]
        self.assert_refused(calls, result(1), -3, 2)

    def test_apart(self):
        calls = [open_group(2), begin(0, 0, 0, 1, [5]), begin(1, 1, 0, 1, [6]), say(0), carry(0, 1)]
        self.assert_refused(calls, result(1), -3, 2)

    def test_forgotten(self):
        self.assert_refused(PAIR + [say(0), carry(0, 1), forget(1)], result(1), -3, 2)


class ResultTest(CallTest):

    def assert_results(self, op, root, c, parts, expected):
        """expected: the result on each member."""
        play = held(op, root, c, parts)
        rows = play.peek([result(i) for i in range(len(parts))])
        self.assertEqual(rows, [[0] + numbers for numbers in expected])
        self.assert_same_later(play.calls, play.calls + [result(i) for i in range(len(parts))], len(parts))

    def test_sums(self):
        self.assert_results(0, 0, 2, [[1, 2], [10, 20], [100, 200]], [[111, 222]] * 3)

    def test_sums_that_pass_the_values(self):
        self.assert_results(0, 0, 3, [[TOP, TOP, 5], [1, TOP, TOP - 5]], [[0, TOP - 1, TOP]] * 2)
        self.assert_results(0, 0, 1, [[TOP]] * 8, [[2 ** 32 - 8]] * 8)

    def test_least_and_greatest(self):
        parts = [[5, TOP, 0], [7, 1, 0], [6, 2, 0]]
        self.assert_results(1, 0, 3, parts, [[5, 1, 0]] * 3)
        self.assert_results(2, 0, 3, parts, [[7, TOP, 0]] * 3)

    def test_all_one_behind_another(self):
        self.assert_results(3, 0, 2, [[5, 6], [3, 4], [1, 2]], [[5, 6, 3, 4, 1, 2]] * 3)

    def test_the_roots_part_for_all(self):
        self.assert_results(4, 0, 2, [[8, 9], [], []], [[8, 9]] * 3)
        self.assert_results(4, 1, 2, [[], [8, TOP], []], [[8, TOP]] * 3)
        self.assert_results(4, 2, 1, [[], [], [4]], [[4]] * 3)

    def test_exchange(self):
        parts = [[1, 2, 3, 4, 5, 6], [11, 12, 13, 14, 15, 16], [21, 22, 23, 24, 25, 26]]
        expected = [[1, 2, 11, 12, 21, 22], [3, 4, 13, 14, 23, 24], [5, 6, 15, 16, 25, 26]]
        self.assert_results(5, 0, 2, parts, expected)

    def test_nothing_brought(self):
        self.assert_results(6, 0, 0, [[], [], []], [[], [], []])

    def test_maps(self):
        self.assert_results(7, 0, 1, [[2, 3], [5, 7]], [[10, 22]] * 2)
        # Member 2's map comes last: 3 (5 (2 x + 3) + 7) + 1; and at the second place 4 (0 x + 2) + 0, then + 9.
        parts = [[2, 3, 0, 2], [5, 7, 4, 0], [3, 1, 1, 9]]
        self.assert_results(7, 0, 2, parts, [[30, 67, 0, 17]] * 3)

    def test_maps_that_pass_the_values(self):
        # - x - 1, then - x - 1 again, is x; 2^31 x, then twice that, is 0.
        self.assert_results(7, 0, 2, [[TOP, TOP, 2 ** 31, TOP], [TOP, TOP, 2, 2]], [[1, 0, 0, 0]] * 2)

    def test_none_at_all(self):
        for op in (0, 1, 2, 3, 5, 7):
            self.assert_results(op, 0, 0, [[], [], []], [[], [], []])
        self.assert_results(4, 2, 0, [[], [], []], [[], [], []])

    def test_a_group_of_one(self):
        expected = {0: [7, TOP], 1: [7, TOP], 2: [7, TOP], 3: [7, TOP], 4: [7, TOP], 5: [7, TOP], 7: [7, TOP, 0, 1]}
        for op, numbers in expected.items():
            self.assert_results(op, 0, 2, [numbers], [numbers])
        self.assert_results(6, 0, 0, [[]], [[]])

    def test_the_largest_of_each_op(self):
        for op in (0, 1, 2, 3, 4, 5, 7):
            root = 5 if op == 4 else 0
            parts = []
            for i in range(8):
                length = part_length(op, 64, 8, i == root)
                parts.append([(k * 2654435761 + i * 40503) % 2 ** 32 for k in range(length)])
            self.assert_results(op, root, 64, parts, [expected_result(op, root, 64, i, parts) for i in range(8)])

    def test_by_members_in_whatever_order_the_parts_came(self):
        begins = [begin(0, 3, 0, 1, [7]), begin(1, 3, 0, 1, [8]), begin(2, 3, 0, 1, [9])]
        calls = [open_group(3)] + begins + [say(2), say(0), say(1), say(1), say(2)]
        # Places: 0 from 2 to 0, 1 from 0 to 1, 2 from 1 to 0, 3 from 1 to 2, 4 from 2 to 1.
        self.assert_last(calls + [carry(0, 0), carry(2, 0), result(0)], [0, 7, 8, 9])
        self.assert_last(calls + [carry(2, 0), carry(0, 0), result(0)], [0, 7, 8, 9])
        self.assert_last(calls + [carry(4, 1), carry(1, 1), result(1)], [0, 7, 8, 9])

    def test_the_next_number_has_its_own_result(self):
        play = held(0, 0, 1, [[1], [2]])
        play.do([begin(0, 3, 0, 1, [30]), begin(1, 3, 0, 1, [40])])
        self.assertEqual(play.peek([result(0), result(1)]), [[-3], [-3]])
        play.round_of_messages()
        self.assertEqual(play.peek([result(0), result(1)]), [[0, 30, 40], [0, 30, 40]])

    def test_one_may_have_it_while_another_has_not(self):
        rows = run(PAIR + [say(0), carry(0, 1), result(0), result(1)])
        self.assertEqual(rows[-2:], [[-3], [0, 11]])
