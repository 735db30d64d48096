"""The interface of answers, and the document's examples."""

from meetwell.desk import answers
from tests.helper import CallTest, Play, begin, carry, forget, knot, listed, lose, message, of, open_group
from tests.helper import read_message, result, run, say, state, tick

# Each of the thirteen calls, granted; behind it the answers.
EACH_CALL = [
    (open_group(2), [0]), (begin(0, 3, 0, 2, [7, 8]), [0]), (begin(1, 3, 0, 2, [9, 10]), [0]),
    (say(0), [0, 0, 1, 0, 3, 0, 2, 1, 0, 7, 8]), (carry(0, 1), [0]), (message(0), [0, 0, 1, 0, 3, 0, 2, 1, 0, 7, 8]),
    (tick(1), [1]), (listed(1), [0, 0]), (state(1), [2, 0, 3, 0, 2, 2, 0, 1, 1]), (result(1), [0, 7, 8, 9, 10]),
    (knot(), [0]), (of(5, 0, 1, 2, 1, [1, 2, 3, 4]), [0, 2, 4]), (forget(1), [0]), (lose(0), [0]), (knot(), [0]),
]


class InterfaceTest(CallTest):

    def test_no_calls(self):
        self.assertEqual(answers([]), [])

    def test_how_many_numbers_then_these(self):
        calls = [1, 2, 2, 0, 0, 0, 2, 2, 7, 8, 3, 0, 4, 0, 1, 6, 0, 7, 0, 5, 0, 6, 0]
        said = [11, 0, 0, 1, 0, 0, 0, 2, 1, 0, 7, 8]
        self.assertEqual(answers(calls), [1, 0, 1, 0] + said + [1, 2] + said + [1, 1, 1, 0, 1, -4])

    def test_a_row_is_passed_over_whole_though_it_is_refused(self):
        long_row = begin(0, 0, 0, 2, [1, 2] * 300)
        self.assert_answers([(open_group(2), [0]), (long_row, [-3]), (tick(0), [-8])])
        self.assert_answers([(begin(0, 9, 9, 99, [1, 1, 9, 2]), [-1]), (tick(0), [-1])])

    def test_whole_numbers_in_a_list(self):
        given = answers([1, 2, 2, 0, 0, 0, 1, 1, 5, 3, 0, 4, 0, 1, 4, 0, 0])
        self.assertIs(list, given.__class__)
        self.assertEqual({number.__class__ for number in given}, {int})

    def test_each_call(self):
        self.assert_answers(EACH_CALL)

    def test_each_call_number_by_number(self):
        calls = [1, 1, 2, 0, 0, 0, 1, 1, 5, 8, 0, 9, 0, 10, 0, 11, 0, 12, 13, 4, 1, 1, 2, 0, 1, 6, 12]
        expected = [1, 0, 1, 0, 1, 0, 2, 0, 5, 8, 2, 0, 0, 0, 1, 1, 0, 0, 1, 0, 1, 3, 2, 0, 6, 1, 3]
        self.assertEqual(answers(calls), expected)

    def test_what_is_handed_in_stays(self):
        calls = [number for call, _ in EACH_CALL for number in call]
        copy = list(calls)
        given = answers(calls)
        self.assertEqual(calls, copy)
        given.clear()
        self.assertEqual(calls, copy)

    def test_nothing_is_kept(self):
        calls = [1, 2, 2, 0, 0, 0, 1, 1, 5, 3, 0]
        first = answers(calls)
        self.assertEqual(answers([3, 0, 6, 0, 7, 0, 8, 0, 10, 0, 12]), [1, -1, 1, -4, 1, -1, 1, -1, 1, -1, 1, -1])
        self.assertEqual(answers(calls), first)

    def test_two_runs_behind_one_another_answer_the_same(self):
        calls = [number for call, _ in EACH_CALL for number in call]
        first = answers(calls)
        copy = list(first)
        self.assertEqual(answers(calls), first)
        first.clear()
        self.assertEqual(answers(calls), copy)

    def test_a_thousand_calls(self):
        calls = [open_group(2), begin(0, 6, 0, 0, [])] + [say(0), lose(0), tick(0)] * 332 + [message(0), say(1)]
        self.assertEqual(len(calls), 1000)
        said = [0, 0, 1, 0, 6, 0, 0, 1, 0]
        self.assertEqual(run(calls), [[0], [0]] + [said, [0], [1]] * 332 + [[-4], [-4]])


class ExampleTest(CallTest):

    def test_the_document(self):
        calls = [
            (open_group(3), [0]),
            (begin(0, 0, 0, 2, [1, 2]), [0]),
            (begin(1, 0, 0, 2, [10, 20]), [0]),
            (knot(), [1, 2, 0]),
            (say(0), [0, 0, 1, 0, 0, 0, 2, 1, 0, 1, 2]),
            (carry(0, 1), [0]),
            (carry(0, 1), [1]),
            (carry(0, 2), [-3]),
            (say(0), [1, 0, 2, 0, 0, 0, 2, 1, 0, 1, 2]),
            (carry(1, 2), [2]),
            (begin(2, 0, 0, 2, [100, 200]), [0]),
        ]
        self.assert_answers(calls)
        play = Play(3, [call for call, _ in calls])
        # Once makes all whole; what's told of list 1 below wants what was asked for then to be said, too.
        play.round_of_messages()
        self.assertEqual(play.peek([result(i) for i in range(3)]), [[0, 111, 222]] * 3)
        play.round_of_messages()
        self.assertEqual(play.answer(result(0)), [0, 111, 222])
        self.assertEqual(play.answer(begin(1, 6, 0, 0, [])), [1])
        self.assertEqual(play.answer(forget(0)), [0])
        self.assertEqual(play.answer(tick(0)), [2])
        said = read_message(play.answer(say(0)))
        self.assertEqual((said["to"], said["number"], said["has"]), (1, 0, [0]))
        self.assertEqual(play.answer(carry(said["place"], 1)), [3])
        self.assertEqual(play.answer(listed(1)), [1, 0, 0, 2])
        self.assertEqual(play.answer(of(7, 0, 1, 2, 0, [2, 3, 5, 7])), [0, 10, 22])
