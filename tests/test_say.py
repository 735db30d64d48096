from tests.helper import TOP, CallTest, begin, carry, lose, message, open_group, read_message, run, say, tick

THREE = [open_group(3), begin(0, 0, 0, 2, [1, 2]), begin(1, 0, 0, 2, [10, 20]), begin(2, 0, 0, 2, [100, 200])]


def full_hall():
    """All 64 places full, and member 0 with 6 on its list: to 2 and above."""
    calls = [open_group(8), begin(0, 3, 0, 1, [9])]
    for _ in range(9):
        calls += [say(0)] * 7 + [tick(0)]
    return calls + [say(0)]


class SayTest(CallTest):

    def test_no_such_member(self):
        self.assert_refused([], say(0), -1)
        for i in (3, 8, TOP):
            self.assert_refused(THREE, say(i), -1)

    def test_the_list_is_empty(self):
        self.assert_refused([open_group(3)], say(0), -4)
        self.assert_refused(THREE + [say(0), say(0)], say(0), -4)

    def test_no_place_is_empty(self):
        full = full_hall()
        rows = run(full)
        self.assertEqual([row[0] for row in rows[2:] if len(row) > 1], list(range(64)))
        self.assert_refused(full, say(0), -6, 8)
        self.assertEqual(self.list_of(full + [say(0), say(0)], 0), [(to, 0) for to in range(2, 8)])

    def test_an_empty_list_is_told_before_full_places(self):
        self.assert_refused(full_hall(), say(1), -4, 8)
        self.assert_refused(full_hall(), say(8), -1, 8)

    def test_what_is_said_once_a_place_is_empty_again(self):
        self.assert_last(full_hall() + [say(0), lose(40), say(0)], [40, 0, 2, 0, 3, 0, 1, 1, 0, 9])

    def test_the_lowest_empty_place(self):
        calls = THREE + [say(0), say(0), say(1), say(1), lose(2), lose(1), say(2), say(2)]
        self.assertEqual([row[0] for row in run(calls)[-2:]], [1, 2])
        self.assertEqual(run(calls + [tick(0), say(0)])[-1][0], 4)

    def test_by_members(self):
        calls = [open_group(5), begin(3, 6, 0, 0, [])]
        self.assertEqual(self.list_of(calls, 3), [(0, 0), (1, 0), (2, 0), (4, 0)])
        self.assertEqual(self.list_of(calls + [say(3), say(3), tick(3)], 3), [(0, 0), (1, 0), (2, 0), (4, 0)])

    def test_the_message_for_its_own_number(self):
        calls = THREE + [say(0), carry(0, 1), say(1), say(1)]
        rows = run(calls)
        self.assertEqual(rows[4], [0, 0, 1, 0, 0, 0, 2, 1, 0, 1, 2])
        self.assertEqual(rows[6], [1, 1, 0, 0, 0, 0, 2, 2, 0, 1, 10, 20])
        self.assertEqual(rows[7], [2, 1, 2, 0, 0, 0, 2, 2, 0, 1, 10, 20])

    def test_the_meeting_with_its_root_and_the_part(self):
        calls = [open_group(3), begin(1, 4, 2, 64, []), begin(2, 4, 2, 64, list(range(64))), say(1), say(2)]
        rows = run(calls)
        self.assertEqual(rows[3], [0, 1, 0, 0, 4, 2, 64, 1, 1])
        self.assertEqual(rows[4], [1, 2, 0, 0, 4, 2, 64, 1, 2] + list(range(64)))

    def test_has_is_as_it_is_when_said_and_stays_so(self):
        calls = THREE + [say(1), say(0), carry(1, 1), say(2), say(2), carry(3, 1), tick(1), say(1)]
        rows = run(calls + [message(0)])
        self.assertEqual(read_message(rows[-2])["has"], [0, 1, 2])
        self.assertEqual(read_message(rows[-1])["has"], [1])

    def test_the_message_for_the_number_before(self):
        # Member 1 gets all parts, says none of its own, and begins another meeting.
        calls = THREE + [say(0), carry(0, 1), say(2), say(2), carry(2, 1), begin(1, 4, 1, 1, [77])]
        rows = run(calls + [say(1)] * 5)[-5:]
        self.assertEqual(rows[0], [3, 1, 0, 0, 0, 0, 2, 3, 0, 1, 2, 10, 20])
        self.assertEqual(rows[1], [4, 1, 2, 0, 0, 0, 2, 3, 0, 1, 2, 10, 20])
        self.assertEqual(rows[2], [5, 1, 0, 1, 4, 1, 1, 1, 1, 77])
        self.assertEqual(rows[3], [6, 1, 2, 1, 4, 1, 1, 1, 1, 77])
        self.assertEqual(rows[4], [-4])

    def test_the_number_before_comes_first_though_its_member_is_higher(self):
        calls = THREE + [say(0), carry(0, 1), say(2), say(2), carry(2, 1), say(1), begin(1, 6, 0, 0, [])]
        self.assertEqual(self.list_of(calls, 1), [(2, 0), (0, 1), (2, 1)])

    def test_an_apart_member_says_what_it_has(self):
        calls = [open_group(2), begin(0, 0, 0, 1, [5]), begin(1, 1, 0, 1, [6]), say(0), carry(0, 1), say(1)]
        self.assert_last(calls, [1, 1, 0, 0, 1, 0, 1, 1, 1, 6])
