"""What holds over a whole line of calls."""

import unittest

from stackedsheets.factory import answers
from tests.lines import (
    HUGE, LineTest, could, fit, joined, minus, need, order, over, plus, start, trim, under,
)

# One of each call but start, by the form that the interface tells.
OTHERS = [
    plus(5), minus(5), trim(0, 1), fit(0, 0), over(0), under(0), order(), order(0, 1, 2),
    could([], []), could([5], [5, 5]), need([], []), need([5], [5]), [10, 0], [10, 3, 0, 1, 2],
    [11, 0], [12, 0, 1], [13, 1], [14], [15, 0], [16, 0], [17, 0], [18, 0], [18, 3, 0, 1, 2], [19],
]


class BeforeStartTest(LineTest):
    def test_every_other_call(self):
        self.check(*[(call, -11) for call in OTHERS])
        for call in OTHERS:
            self.check((call, -11))

    def test_goes_before_every_other_refusal(self):
        self.check(
            (plus(0), -11), (minus(HUGE), -11), (trim(HUGE, 0), -11), (fit(HUGE, HUGE), -11), (over(HUGE), -11),
            (under(HUGE), -11), (order(*[HUGE] * 7), -11), (could([HUGE] * 60, [0] * 60), -11),
            (need([0] * 60, [HUGE] * 60), -11), ([10, 60] + [HUGE] * 60, -11), ([13, 0], -11),
        )

    def test_after_a_refused_start(self):
        self.check((start(101), -22), *[(call, -11) for call in OTHERS], (start(HUGE), -22), (plus(5), -11))

    def test_nothing_is_there_when_a_start_comes_late(self):
        self.check(
            (plus(5), -11), (minus(5), -11), (start(101), -22), (start(100), 0),
            (fit(0, 0), -2), (minus(205), 0), (plus(5), 1), (fit(0, 1), 1),
        )


class LineFormTest(LineTest):
    def test_whole_answer_as_the_interface_tells_it(self):
        calls = [0, 10, 2, 50, 1, 30, 2, 51, 5, 0, 7, 3, 2, 1, 0, 8, 1, 30, 2, 50, 50, 9, 1, 30, 1, 50, 3, 2, 49, 6, 1]
        told = [1, 0, 1, 0, 1, 1, 1, 2, 2, 1, 1, 4, 3, 2, 1, 0, 1, 1, 1, 50, 1, 51, 2, 1, 0]
        self.assertEqual(answers(calls), told)

    def test_one_call(self):
        self.assertEqual(answers([0, 0]), [1, 0])
        self.assertEqual(answers([0, 101]), [1, -22])
        self.assertEqual(answers([8, 0, 0]), [1, -11])

    def test_empty_lists_and_lists_of_60(self):
        long = [7] * 60
        self.check(
            (start(0), 0), (could([], []), 0), (could(long, long), -22), (could([], long), -22), (could(long, []), -22),
            (need([], []), -33), (need(long, long), -22), (need([], long), -22), (need(long, []), -22),
            (could([HUGE] * 60, [HUGE] * 60), -22), (order(), -33), (plus(9), 0),
        )

    def test_two_hundred_calls(self):
        long = [HUGE] * 60
        self.check((start(0), 0), *[(could(long, long), -22), (need([5], [9]), 5)] * 99, (minus(1), 0))


class RefusedChangesNothingTest(LineTest):
    def test_all_that_can_be_asked_is_as_before(self):
        begun = [(start(5), 0), (minus(30), 0), (plus(20), 1), (minus(30), 2)]
        refused = [
            (start(101), -22), (plus(0), -22), (minus(1001), -22), (trim(3, 1), -2), (trim(0, 30), -22),
            (trim(1, 0), -22), (fit(0, 3), -2), (over(1), -13), (over(3), -2), (under(0), -13), (under(3), -2),
            (order(0, 0), -22), (order(0, 2, 3), -22), (order(0, 2), -33), (could([0], []), -22),
            (need([0], []), -22), (need([], []), -33),
        ]
        asked = [
            (fit(0, 1), 1), (over(0), [1, 1]), (under(1), [2, 0, 2]), (order(0, 1, 2), [3, 0, 1, 2]),
            (could([20], [30, 30]), 1), (need([20], [30]), 30),
        ]
        self.check(*begun, *asked, *refused, *asked, (trim(0, 29), 30), (trim(1, 19), 20), (plus(7), 3))
        for call in refused:
            self.check(*begun, call, *asked, (trim(0, 29), 30), (trim(1, 19), 20), (plus(7), 3))


class KeepsNothingTest(unittest.TestCase):
    def setUp(self):
        self.calls = joined([
            start(5), minus(30), plus(20), minus(40), trim(2, 30), over(0), under(1), order(2, 1, 0), fit(0, 1),
            could([20], [30, 30]), need([20], [30]), could([9] * 60, [9] * 60), plus(0),
        ])

    def test_list_handed_in_is_the_same_afterwards(self):
        before = list(self.calls)
        answers(self.calls)
        self.assertEqual(self.calls, before)

    def test_a_second_time_answers_as_the_first_did(self):
        first = answers(self.calls)
        kept = list(first)
        first.append(HUGE)
        self.assertEqual(answers(self.calls), kept)

    def test_every_line_is_a_new_object(self):
        answers(self.calls)
        self.assertEqual(answers(plus(5)), [1, -11])
        self.assertEqual(answers(joined([start(0), plus(5)])), [1, 0, 1, 0])
        self.assertEqual(answers(joined([start(0), fit(0, 0)])), [1, 0, 1, -2])
