from tests.helper import TOP, CallTest, begin, carry, expected_result, of, open_group, part_length, run, say, state


def lengths(op, root, c, n):
    return [part_length(op, c, n, i == root) for i in range(n)]


class RefusedOfTest(CallTest):

    def test_no_such_size(self):
        for n in (0, 9, TOP):
            self.assert_refused([], of(6, 0, 0, n, 0, []), -1)
        self.assert_refused([], of(0, 0, 1, 9, 0, [1] * 9), -1)

    def test_me_is_not_below_n(self):
        for n, me in ((1, 1), (3, 3), (3, 4), (8, 8), (3, TOP)):
            self.assert_refused([], of(6, 0, 0, n, me, []), -1)

    def test_no_such_op(self):
        for op in (8, 9, TOP):
            self.assert_refused([], of(op, 0, 0, 2, 0, []), -1)

    def test_root_is_no_member_of_the_n(self):
        for root in (2, 7, TOP):
            self.assert_refused([], of(4, root, 1, 2, 0, [5]), -1)
        # Whatever the group is: its size is not asked.
        self.assert_refused([open_group(8)], of(4, 2, 1, 2, 0, [5]), -1, 8)

    def test_root_is_0_but_for_op_4(self):
        for op in (0, 1, 2, 3, 5, 6, 7):
            self.assert_refused([], of(op, 1, 0, 2, 0, []), -1)

    def test_count_above_64(self):
        for op in (0, 1, 2, 3, 4, 5, 7):
            self.assert_last([of(op, 0, 65, 2, 0, [1] * sum(lengths(op, 0, 65, 2)))], [-1])
        self.assert_refused([], of(0, 0, TOP, 2, 0, []), -1)

    def test_count_not_0_for_op_6(self):
        self.assert_refused([], of(6, 0, 1, 2, 0, []), -1)
        self.assert_refused([], of(6, 0, 1, 2, 0, [1, 1]), -1)

    def test_number_beyond_the_values(self):
        for parts in ([TOP + 1, 0], [0, TOP + 1], [2 ** 33 - 1, 0]):
            self.assert_refused([], of(0, 0, 1, 2, 0, parts), -1)

    def test_minus_1_before_minus_3(self):
        for call in (of(0, 0, 1, 0, 0, [1]), of(0, 0, 1, 9, 0, [1]), of(0, 0, 1, 2, 2, [1]), of(8, 0, 1, 2, 0, [1]),
                     of(4, 2, 1, 2, 0, [1, 2]), of(0, 1, 1, 2, 0, [1]), of(0, 0, 65, 2, 0, [1]),
                     of(6, 0, 1, 2, 0, [1, 2, 3]), of(0, 0, 1, 2, 0, [TOP + 1]), of(0, 0, 1, 2, 0, [1, 2, TOP + 1])):
            self.assert_last([call], [-1])

    def test_too_short_and_too_long(self):
        for op in range(8):
            for c in ((0,) if op == 6 else (0, 1, 64)):
                for n in (1, 2, 8):
                    length = sum(lengths(op, 0, c, n))
                    self.assert_last([of(op, 0, c, n, 0, [1] * (length + 1))], [-3])
                    if length > 0:
                        self.assert_last([of(op, 0, c, n, 0, [1] * (length - 1))], [-3])
        self.assert_refused([], of(0, 0, 1, 2, 0, [1]), -3)
        self.assert_refused([], of(0, 0, 1, 2, 0, [1] * 4200), -3)
        # Of op 4 the root alone brings a part.
        self.assert_last([of(4, 1, 2, 3, 0, [1] * 6)], [-3])
        self.assert_last([of(4, 1, 2, 3, 0, [1, 2])], [0, 1, 2])


class OfTest(CallTest):

    def test_the_document(self):
        self.assert_last([of(7, 0, 1, 2, 0, [2, 3, 5, 7])], [0, 10, 22])
        self.assert_last([of(7, 0, 1, 2, 1, [2, 3, 5, 7])], [0, 10, 22])

    def test_each_op(self):
        self.assert_answers([
            (of(0, 0, 2, 3, 1, [1, 2, 10, 20, 100, 200]), [0, 111, 222]),
            (of(1, 0, 2, 3, 1, [1, 20, 10, 2, 100, 200]), [0, 1, 2]),
            (of(2, 0, 2, 3, 1, [1, 20, 10, 200, 100, 2]), [0, 100, 200]),
            (of(3, 0, 2, 3, 1, [6, 5, 4, 3, 2, 1]), [0, 6, 5, 4, 3, 2, 1]),
            (of(4, 2, 2, 3, 1, [6, 5]), [0, 6, 5]),
            (of(5, 0, 2, 2, 0, [1, 2, 3, 4, 5, 6, 7, 8]), [0, 1, 2, 5, 6]),
            (of(5, 0, 2, 2, 1, [1, 2, 3, 4, 5, 6, 7, 8]), [0, 3, 4, 7, 8]),
            (of(6, 0, 0, 3, 1, []), [0]),
            (of(7, 0, 2, 2, 1, [2, 3, 1, 0, 5, 7, 0, 9]), [0, 10, 22, 0, 9]),
        ])

    def test_beyond_the_values(self):
        self.assert_answers([
            (of(0, 0, 1, 2, 0, [TOP, 1]), [0, 0]),
            (of(0, 0, 1, 8, 7, [TOP] * 8), [0, 2 ** 32 - 8]),
            (of(1, 0, 1, 2, 0, [TOP, TOP]), [0, TOP]),
            (of(7, 0, 1, 2, 0, [TOP, TOP, TOP, TOP]), [0, 1, 0]),
            (of(7, 0, 1, 3, 0, [2 ** 31, 2 ** 31, 2, 5, 1, TOP]), [0, 0, 4]),
        ])

    def test_one_member(self):
        for op in (0, 1, 2, 3, 4, 5):
            self.assert_last([of(op, 0, 2, 1, 0, [8, TOP])], [0, 8, TOP])
        self.assert_last([of(6, 0, 0, 1, 0, [])], [0])
        self.assert_last([of(7, 0, 1, 1, 0, [8, TOP])], [0, 8, TOP])

    def test_each_op_size_and_member(self):
        for op in range(8):
            for n in (1, 2, 3, 8):
                for c in ((0,) if op == 6 else (0, 1, 3, 64)):
                    for root in (sorted({0, n // 2, n - 1}) if op == 4 else (0,)):
                        self.check_table(op, root, c, n)

    def check_table(self, op, root, c, n):
        parts = []
        for i, length in enumerate(lengths(op, root, c, n)):
            parts.append([(k * 2654435761 + i * 2246822519 + 374761393) % 2 ** 32 for k in range(length)])
        joined = [number for part in parts for number in part]
        for me in sorted({0, n // 2, n - 1}):
            expected = [0] + expected_result(op, root, c, me, parts)
            self.assertEqual(run([of(op, root, c, n, me, joined)]), [expected], (op, root, c, n, me))

    def test_the_group_is_not_asked_and_stays(self):
        call = of(3, 0, 1, 3, 2, [7, 8, 9])
        before = [open_group(2), begin(0, 0, 0, 1, [5]), begin(1, 0, 0, 1, [6]), say(0), carry(0, 1)]
        for calls, size in (([], 1), ([open_group(1)], 1), (before, 2)):
            self.assert_last(calls + [call], [0, 7, 8, 9])
            self.assert_same_later(calls, calls + [call], size)

    def test_what_stands_behind_its_row_is_read(self):
        self.assert_answers([
            (of(9, 9, 99, 99, 99, [1, 12, 13]), [-1]), (open_group(1), [0]), (of(6, 0, 0, 1, 0, []), [0]),
            (state(0), [0, 0]), (of(0, 0, 1, 1, 0, [4]), [0, 4]), (state(0), [0, 0]),
        ])
