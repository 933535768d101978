"""What holds over a whole line of calls."""

import unittest

from stackedsheets.factory import answers
from tests.lines import (
    HUGE, LineTest, check, could, fit, height, joined, loose, minus, most, need, order, over, plus, press, sheet,
    stack, start, state, swap, take, trim, under,
)

# One of each call but start, by the form that the interface tells.
OTHERS = [
    plus(5), minus(5), trim(0, 1), fit(0, 0), over(0), under(0), order(), order(0, 1, 2),
    could([], []), could([5], [5, 5]), need([], []), need([5], [5]), press(), press(0, 1, 2),
    take(0), swap(0, 1), swap(0, 0), most(1), most(0), loose(), stack(0), height(0), sheet(0), check(),
    check(0, 1, 2), state(),
]


class BeforeStartTest(LineTest):
    def test_every_other_call(self):
        self.check(*[(call, -11) for call in OTHERS])
        for call in OTHERS:
            self.check((call, -11))

    def test_goes_before_every_other_refusal(self):
        self.check(
            (plus(0), -11), (minus(HUGE), -11), (trim(HUGE, 0), -11), (fit(HUGE, HUGE), -11), (over(HUGE), -11),
            (under(HUGE), -11), (order(*[HUGE] * 7), -11), (could([HUGE] * 60, [0] * 60), -11),
            (need([0] * 60, [HUGE] * 60), -11), (press(*[HUGE] * 60), -11), (take(HUGE), -11),
            (swap(HUGE, HUGE), -11), (most(0), -11), (most(HUGE), -11), (stack(HUGE), -11), (height(HUGE), -11),
            (sheet(HUGE), -11), (check(*[HUGE] * 60), -11),
        )

    def test_after_a_refused_start(self):
        self.check((start(101), -22), *[(call, -11) for call in OTHERS], (start(HUGE), -22), (plus(5), -11))

    def test_nothing_is_there_when_a_start_comes_late(self):
        self.check(
            (plus(5), -11), (minus(5), -11), (start(101), -22), (start(100), 0),
            (fit(0, 0), -2), (state(), [0, 0, 100]), (loose(), [0, 0, 0]), (minus(205), 0), (plus(5), 1),
            (fit(0, 1), 1),
        )


class LineFormTest(LineTest):
    def test_whole_answer_as_the_interface_tells_it(self):
        calls = [0, 10, 2, 50, 1, 30, 2, 51, 5, 0, 7, 3, 2, 1, 0, 8, 1, 30, 2, 50, 50, 9, 1, 30, 1, 50, 3, 2, 49, 6, 1]
        told = [1, 0, 1, 0, 1, 1, 1, 2, 2, 1, 1, 4, 3, 2, 1, 0, 1, 1, 1, 50, 1, 51, 2, 1, 0]
        self.assertEqual(answers(calls), told)

    def test_whole_answer_to_the_calls_about_stacks(self):
        calls = [
            0, 10, 2, 50, 1, 30, 2, 51, 1, 31,
            18, 3, 0, 1, 2, 13, 1, 10, 3, 0, 1, 2, 14, 15, 0, 16, 0, 17, 1, 17, 3, 19,
            12, 0, 2, 15, 0, 12, 1, 3, 12, 3, 3, 11, 0, 11, 0, 10, 0, 19,
        ]
        told = [
            1, 0, 1, 0, 1, 1, 1, 2, 1, 3,
            1, 1, 1, 1, 1, 0, 3, 1, 1, 0, 4, 3, 0, 1, 2, 3, 1, 51, 30, 3, 30, 0, 1, 3, 31, 0, 0, 3, 4, 1, 10,
            1, 0, 4, 3, 2, 1, 0, 1, -16, 1, -6, 1, 3, 1, -2, 1, -16, 3, 4, 0, 10,
        ]
        self.assertEqual(answers(calls), told)

    def test_one_call(self):
        self.assertEqual(answers([0, 0]), [1, 0])
        self.assertEqual(answers([0, 101]), [1, -22])
        self.assertEqual(answers([8, 0, 0]), [1, -11])

    def test_empty_lists_and_lists_of_60(self):
        long = [7] * 60
        self.check(
            (start(0), 0), (could([], []), 0), (could(long, long), -22), (could([], long), -22), (could(long, []), -22),
            (need([], []), -33), (need(long, long), -22), (need([], long), -22), (need(long, []), -22),
            (could([HUGE] * 60, [HUGE] * 60), -22), (order(), -33), (plus(9), 0),
            (press(), -16), (check(), 0), (press(*[0] * 60), -22), (check(*[0] * 60), -22),
            (press(*[HUGE] * 60), -22), (check(*range(60)), -22), (state(), [1, 0, 0]),
        )

    def test_two_hundred_calls(self):
        long = [HUGE] * 60
        self.check((start(0), 0), *[(could(long, long), -22), (need([5], [9]), 5)] * 99, (minus(1), 0))


class RefusedChangesNothingTest(LineTest):
    def test_all_that_can_be_asked_is_as_before(self):
        begun = [(start(5), 0), (minus(30), 0), (plus(20), 1), (minus(30), 2)]
        refused = [
            (start(101), -22), (plus(0), -22), (minus(1001), -22), (trim(3, 1), -2), (trim(0, 30), -22),
            (trim(1, 0), -22), (fit(0, 3), -2), (over(1), -13), (over(3), -2), (under(0), -13), (under(3), -2),
            (order(0, 0), -22), (order(0, 2, 3), -22), (order(0, 2), -33), (could([0], []), -22),
            (need([0], []), -22), (need([], []), -33), (press(0, 1, 3), -22), (press(0, 1, 0), -22), (press(), -16),
            (press(1, 0, 2), -16), (take(0), -2), (stack(0), -2), (height(0), -2), (sheet(3), -2), (swap(0, 3), -2),
            (swap(0, 2), -6), (swap(1, 1), -6), (most(0), -22), (most(4), -22), (check(0, 1, 3), -22),
            (check(2, 1, 2), -22),
        ]
        asked = [
            (state(), [3, 0, 5]), (loose(), [3, 1, 2]), (sheet(1), [20, 0, 0]), (most(1), 1), (check(0, 1, 2), 1),
            (fit(0, 1), 1), (over(0), [1, 1]), (under(1), [2, 0, 2]), (order(0, 1, 2), [3, 0, 1, 2]),
            (could([20], [30, 30]), 1), (need([20], [30]), 30),
        ]
        self.check(*begun, *asked, *refused, *asked, (trim(0, 29), 30), (trim(1, 19), 20), (plus(7), 3))
        for call in refused:
            self.check(*begun, call, *asked, (trim(0, 29), 30), (trim(1, 19), 20), (plus(7), 3))

    def test_stacks_are_as_before(self):
        begun = [
            (start(5), 0), *[(minus(30), i) for i in range(5)], (plus(20), 5), (plus(15), 6), (plus(21), 7),
            (press(0, 5, 1), 0), (press(2, 6, 3), 1),
        ]
        refused = [
            (start(101), -22), (plus(0), -22), (minus(1001), -22), (trim(0, 29), -16), (trim(6, 1), -16),
            (press(4, 7, 8), -22), (press(4, 7, 4), -22), (press(0, 5, 1), -17), (press(4, 7, 0), -17),
            (press(4), -16), (press(4, 7), -16), (press(), -16), (take(2), -2), (take(HUGE), -2), (swap(0, 8), -2),
            (swap(4, 7), -6), (swap(4, 4), -6), (swap(0, 0), -16), (swap(0, 5), -16), (swap(5, 7), -16),
            (swap(6, 7), -16), (swap(0, 6), -16), (swap(4, 5), -16), (most(0), -22), (most(4), -22),
            (check(4, 7, 4), -22), (stack(2), -2), (height(2), -2), (sheet(8), -2),
        ]
        asked = [
            (state(), [8, 2, 5]), (loose(), [2, 1, 1]), (stack(0), [3, 0, 5, 1]), (stack(1), [3, 2, 6, 3]),
            (height(0), [1, 30, 20]), (height(1), [1, 30, 15]), (most(1), 0), (sheet(0), [30, 1, 1]),
            (sheet(1), [30, 1, 1]), (sheet(2), [30, 1, 2]), (sheet(3), [30, 1, 2]), (sheet(4), [30, 1, 0]),
            (sheet(5), [20, 0, 1]), (sheet(6), [15, 0, 2]), (sheet(7), [21, 0, 0]),
        ]
        self.check(*begun, *asked, *refused, *asked, (take(0), 3), (take(1), 3))
        for call in refused:
            self.check(*begun, call, *asked, (plus(7), 8), (take(1), 3), (take(0), 3))


class AskingChangesNothingTest(LineTest):
    def test_what_is_asked_is_answered_alike_again(self):
        begun = [
            (start(0), 0), *[(minus(9), i) for i in range(6)], *[(plus(9), 6 + i) for i in range(4)],
            (press(5, 9, 4), 0),
        ]
        asked = [
            (most(1), 2), (most(2), 1), (most(3), 1), (loose(), [7, 3, 4]), (stack(0), [3, 5, 9, 4]),
            (height(0), [1, 9, 9]), (sheet(9), [9, 0, 1]), (sheet(8), [9, 0, 0]), (check(0, 6, 1), 1),
            (check(5, 9, 4), 1), (check(6, 0, 7), 0), (state(), [10, 1, 0]), (order(0, 6, 1), [3, 0, 6, 1]),
        ]
        self.check(*begun, *asked, *asked, *asked, (press(0, 6, 1), 1), (take(0), 3))


class KeepsNothingTest(unittest.TestCase):
    def setUp(self):
        self.calls = joined([
            start(5), minus(30), plus(20), minus(40), trim(2, 30), over(0), under(1), order(2, 1, 0), fit(0, 1),
            could([20], [30, 30]), need([20], [30]), could([9] * 60, [9] * 60), plus(0),
            check(2, 1, 0), most(1), press(2, 1, 0), minus(35), swap(3, 2), swap(3, 0), stack(0), height(0),
            loose(), sheet(3), state(), take(0), state(), press(0, 1, 2), press(*[9] * 60), press(0, 1, 3),
        ])

    def test_list_handed_in_is_the_same_afterwards(self):
        before = list(self.calls)
        answers(self.calls)
        self.assertEqual(self.calls, before)

    def test_a_second_time_answers_as_the_first_did(self):
        first = answers(self.calls)
        kept = list(first)
        first.append(HUGE)
        self.assertEqual(answers(self.calls), kept)

    def test_every_line_is_a_new_object(self):
        answers(self.calls)
        self.assertEqual(answers(plus(5)), [1, -11])
        self.assertEqual(answers(joined([start(0), plus(5)])), [1, 0, 1, 0])
        self.assertEqual(answers(joined([start(0), fit(0, 0)])), [1, 0, 1, -2])
        self.assertEqual(answers(joined([start(0), stack(0), state()])), [1, 0, 1, -2, 3, 0, 0, 0])
