"""The calls lose and message."""

from tests.helper import TOP, CallTest, begin, carry, lose, message, open_group, run, say

THREE = [open_group(3), begin(0, 0, 0, 1, [1]), begin(1, 0, 0, 1, [2]), begin(2, 0, 0, 1, [3])]


class PlacesTest(CallTest):

    def test_a_place_above_63(self):
        for place in (64, 65, TOP):
            for before in ([], THREE + [say(0)]):
                self.assert_refused(before, lose(place), -1)
                self.assert_refused(before, message(place), -1)

    def test_an_empty_place(self):
        for before in ([], [open_group(1)], THREE + [say(0)]):
            for place in (1, 63):
                self.assert_refused(before, lose(place), -4)
                self.assert_refused(before, message(place), -4)

    def test_lose_empties_one_place_alone(self):
        calls = THREE + [say(0), say(0), say(1), lose(1)]
        rows = run(calls + [message(0), message(1), message(2), lose(1)])
        self.assertEqual(rows[7], [0])
        self.assertEqual(rows[8:], [rows[4], [-4], rows[6], [-4]])

    def test_a_lost_message_is_still_off_the_list(self):
        self.assertEqual(self.list_of(THREE + [say(0), lose(0)], 0), [(2, 0)])

    def test_a_place_is_used_again_after_lose(self):
        calls = THREE + [say(0), say(1), lose(0), say(2), message(0)]
        rows = run(calls)
        self.assertEqual(rows[-2], [0, 2, 0, 0, 0, 0, 1, 1, 2, 3])
        self.assertEqual(rows[-1], rows[-2])

    def test_message_tells_what_was_said_and_changes_nothing(self):
        before = THREE + [say(0), carry(0, 1), say(1)]
        rows = run(before + [message(0), message(1), message(0)])
        self.assertEqual(rows[-3:], [rows[4], rows[6], rows[4]])
        self.assert_same_later(before, before + [message(0), message(1)])

    def test_the_highest_place(self):
        calls = [open_group(8)] + [begin(i, 6, 0, 0, []) for i in range(8)]
        calls += [say(i) for i in range(8) for _ in range(7)]
        calls += [[7, 0]] + [say(0)] * 7 + [[7, 1], say(1)]
        last = [63, 1, 0, 0, 6, 0, 0, 1, 1]
        self.assert_last(calls, last)
        self.assert_last(calls + [message(63)], last)
        self.assert_last(calls + [carry(63, 0)], [0])
        self.assert_last(calls + [lose(63)], [0])
        self.assert_last(calls + [lose(63), message(63)], [-4])
