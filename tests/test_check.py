"""Promise 2: check, also held against press."""

from itertools import permutations

from tests.lines import HUGE, LineTest, check, loose, minus, plus, press, stack, start, state, take, trim

FIVE = [(start(5), 0), (minus(30), 0), (plus(20), 1), (minus(31), 2), (plus(21), 3), (minus(31), 4)]


class CheckTest(LineTest):
    def test_in_its_order_and_turned_round(self):
        self.check(
            *FIVE, (check(0, 1, 2), 1), (check(2, 1, 0), 1), (check(0, 1, 2, 3, 4), 1), (check(4, 3, 2, 1, 0), 1),
            (check(0, 3, 2), 0), (check(2, 3, 0), 0), (check(2, 1, 0, 3, 4), 0), (check(4, 3, 0, 1, 2), 0),
        )

    def test_list_in_another_order_is_none(self):
        self.check(*FIVE, (check(0, 2, 1), 0), (check(1, 0, 2), 0), (check(1, 2, 0), 0), (check(0, 2, 4), 0))

    def test_even_number_and_fewer_than_three(self):
        self.check(
            *FIVE, (check(), 0), (check(0), 0), (check(1), 0), (check(0, 1), 0), (check(1, 0), 0),
            (check(0, 1, 2, 3), 0), (check(1, 2, 3, 4), 0), (check(1, 0, 3), 0),
        )

    def test_first_one_plus(self):
        self.check(
            (start(0), 0), (plus(5), 0), (minus(9), 1), (plus(5), 2), (minus(9), 3), (plus(5), 4), (check(0, 1, 2), 0),
            (check(0, 1, 2, 3, 4), 0), (check(1, 2, 3), 1), (press(0, 1, 2), -16), (press(1, 2, 3), 0),
        )

    def test_refused_lists(self):
        self.check(
            *FIVE, (check(0, 1, 5), -22), (check(5), -22), (check(HUGE), -22), (check(0, 1, 0), -22),
            (check(0, 0), -22), (check(0, 1, 2, 3, 4, 0), -22), (check(*[0] * 60), -22), (check(*range(60)), -22),
            (check(*[HUGE] * 60), -22), (check(5, 0, 1, 2), -22),
        )
        self.check((start(0), 0), (check(0), -22), (check(), 0))

    def test_sheets_that_lie_in_a_stack(self):
        self.check(
            *FIVE, (press(0, 1, 2), 0), (check(0, 1, 2), 1), (check(2, 1, 0), 1), (check(0, 1, 4), 1),
            (check(4, 3, 2, 1, 0), 1), (check(0, 3, 2), 0), (check(0, 1, 0), -22), (stack(0), [3, 0, 1, 2]),
            (press(0, 1, 4), -17),
        )

    def test_widths_as_they_are_now(self):
        self.check(
            *FIVE, (trim(3, 20), 21), (check(0, 3, 2), 1), (trim(0, 29), 30), (check(0, 3, 2), 0), (check(2, 3, 4), 1),
        )

    def test_all_of_thirteen(self):
        laid = [((minus, plus)[i % 2](9), i) for i in range(14)]
        self.check((start(0), 0), *laid, (check(*range(13)), 1), (check(*range(14)), 0), (check(*range(1, 14)), 0))

    def test_lays_nothing(self):
        self.check(*FIVE, (check(0, 1, 2), 1), (state(), [5, 0, 5]), (loose(), [5, 2, 3]), (press(0, 1, 2), 0))

    def test_against_press(self):
        for length in (3, 4, 5):
            for listed in permutations(range(5), length):
                signs = [i % 2 for i in listed]
                beside = list(zip(listed, listed[1:]))
                # Of all these sheets only 0 and 3 do not fit.
                fit = all({i, j} != {0, 3} for i, j in beside)
                if fit and signs in ([0, 1, 0], [0, 1, 0, 1, 0]):
                    self.check(*FIVE, (check(*listed), 1), (press(*listed), 0), (stack(0), [length, *listed]))
                    self.check(*FIVE, (check(*listed[::-1]), 1), (press(*listed[::-1]), 0), (take(0), length))
                else:
                    self.check(*FIVE, (check(*listed), 0), (press(*listed), -16), (state(), [5, 0, 5]))
