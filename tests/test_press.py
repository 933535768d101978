"""Promise 3: press, take, swap; what stack, sheet, height and loose answer behind them."""

from itertools import permutations, product

from tests.lines import (
    HUGE, LineTest, check, height, loose, minus, plus, press, sheet, stack, start, state, swap, take, trim,
)

# Sheets 0 to 7 are minus ones of 30, sheets 8 to 13 plus ones of 20.
FOURTEEN = [(start(5), 0), *[(minus(30), i) for i in range(8)], *[(plus(20), i) for i in range(8, 14)]]


class PressTest(LineTest):
    def test_three_sheets(self):
        self.check(
            (start(5), 0), (minus(31), 0), (plus(20), 1), (minus(30), 2), (press(2, 1, 0), 0),
            (stack(0), [3, 2, 1, 0]), (height(0), [1, 31, 20]), (sheet(0), [31, 1, 1]), (sheet(1), [20, 0, 1]),
            (sheet(2), [30, 1, 1]), (loose(), [0, 0, 0]), (state(), [3, 1, 5]),
        )

    def test_widths_just_enough_and_one_too_few(self):
        for reach in (0, 1, 100):
            enough = 20 + 2 * reach
            self.check(
                (start(reach), 0), (minus(enough), 0), (plus(20), 1), (minus(enough - 1), 2), (plus(21), 3),
                (minus(enough), 4), (press(0, 1, 2), -16), (press(2, 1, 0), -16), (press(0, 3, 4), -16),
                (loose(), [5, 2, 3]), (state(), [5, 0, reach]), (press(0, 1, 4), 0),
            )

    def test_five_and_seven_and_thirteen(self):
        self.check(
            *FOURTEEN, (press(0, 8, 1, 9, 2), 0), (stack(0), [5, 0, 8, 1, 9, 2]), (take(0), 5),
            (press(7, 13, 6, 12, 5, 11, 4), 0), (stack(0), [7, 7, 13, 6, 12, 5, 11, 4]), (take(0), 7),
            (press(0, 8, 1, 9, 2, 10, 3, 11, 4, 12, 5, 13, 6), 0), (height(0), [6, 30, 20]),
            (stack(0), [13, 0, 8, 1, 9, 2, 10, 3, 11, 4, 12, 5, 13, 6]), (loose(), [1, 0, 1]), (take(0), 13),
        )

    def test_wide_plus_between_the_two_widest(self):
        self.check(
            (start(0), 0), (minus(10), 0), (plus(10), 1), (minus(20), 2), (plus(20), 3), (minus(20), 4),
            (press(2, 1, 0, 3, 4), -16), (press(0, 3, 2, 1, 4), -16), (press(0, 1, 2, 3, 4), 0),
        )

    def test_turned_round(self):
        self.check(
            (start(0), 0), (minus(9), 0), (plus(9), 1), (minus(9), 2), (plus(9), 3), (minus(9), 4),
            (press(0, 1, 2, 3, 4), 0), (take(0), 5), (press(4, 3, 2, 1, 0), 0), (stack(0), [5, 4, 3, 2, 1, 0]),
        )

    def test_two_alike_are_still_two(self):
        self.check(
            (start(0), 0), (plus(9), 0), (plus(9), 1), (minus(9), 2), (minus(9), 3), (minus(9), 4),
            (press(2, 1, 4), 0), (sheet(0), [9, 0, 0]), (sheet(1), [9, 0, 1]), (sheet(3), [9, 1, 0]),
            (press(3, 1, 4), -17), (press(3, 0, 3), -22),
        )

    def test_wrong_list_goes_first(self):
        begun = [*FOURTEEN, (press(0, 8, 1), 0)]
        self.check(
            *begun, (press(2, 9, 14), -22), (press(2, 9, HUGE), -22), (press(14), -22), (press(2, 9, 2), -22),
            (press(9, 9), -22), (press(0, 8, 14), -22), (press(0, 8, 0), -22), (press(0, 0), -22),
            (press(*[2] * 60), -22), (press(*[HUGE] * 60), -22), (press(*range(15)), -22), (press(*range(60)), -22),
            (state(), [14, 1, 5]), (loose(), [11, 5, 6]),
        )
        self.check((start(0), 0), (press(0), -22), (press(), -16), (press(0, 1, 2), -22))

    def test_one_in_a_stack_goes_before_no_stack(self):
        self.check(
            *FOURTEEN, (press(0, 8, 1), 0), (press(0), -17), (press(8, 0), -17), (press(0, 8, 1), -17),
            (press(1, 8, 0), -17), (press(2, 9, 1), -17), (press(0, 9, 2), -17), (press(2, 8, 3), -17),
            (press(9, 2, 0), -17), (press(2, 3, 4, 0), -17), (press(*range(14)), -17), (state(), [14, 1, 5]),
        )

    def test_no_stack(self):
        self.check(
            *FOURTEEN, (press(), -16), (press(0), -16), (press(8), -16), (press(0, 8), -16), (press(8, 0), -16),
            (press(0, 8, 1, 9), -16), (press(0, 1, 2), -16), (press(8, 0, 9), -16), (press(0, 8, 9), -16),
            (press(8, 9, 0), -16), (press(0, 8, 1, 2, 9), -16), (press(0, 8, 1, 9, 10), -16), (press(*range(14)), -16),
            (press(8, 0, 9, 1, 10), -16), (state(), [14, 0, 5]), (loose(), [14, 6, 8]), (press(0, 8, 1), 0),
        )

    def test_no_stack_at_each_place(self):
        for place in range(7):
            widths = [30] * 7
            for i in range(1, 7, 2):
                widths[i] = 20
            widths[place] += 1 if place % 2 else -1
            laid = [((minus, plus)[i % 2](wide), i) for i, wide in enumerate(widths)]
            self.check((start(5), 0), *laid, (press(*range(7)), -16), (check(*range(7)), 0))

    def test_trimmed_and_then_pressed(self):
        self.check(
            (start(5), 0), (minus(40), 0), (plus(31), 1), (minus(40), 2), (press(0, 1, 2), -16),
            (trim(1, 30), 31), (press(0, 1, 2), 0), (height(0), [1, 40, 30]), (sheet(1), [30, 0, 1]),
        )

    def test_trimmed_and_no_longer_fits(self):
        self.check(
            (start(5), 0), (minus(41), 0), (plus(30), 1), (minus(41), 2), (press(0, 1, 2), 0), (take(0), 3),
            (trim(0, 40), 41), (press(0, 1, 2), 0), (take(0), 3), (trim(2, 39), 41), (press(0, 1, 2), -16),
            (trim(1, 29), 30), (press(0, 1, 2), 0), (height(0), [1, 40, 29]),
        )


class NumberOfAStackTest(LineTest):
    def test_least_that_is_free(self):
        self.check(
            *FOURTEEN, (press(0, 8, 1), 0), (press(2, 9, 3), 1), (press(4, 10, 5), 2), (press(6, 11, 7), 3),
            (take(1), 3), (stack(1), -2), (stack(2), [3, 4, 10, 5]), (sheet(4), [30, 1, 3]), (state(), [14, 3, 5]),
            (press(3, 12, 2), 1), (stack(1), [3, 3, 12, 2]), (state(), [14, 4, 5]),
            (take(2), 3), (take(0), 3), (state(), [14, 2, 5]), (press(4, 10, 5), 0), (press(0, 8, 1), 2),
            (stack(0), [3, 4, 10, 5]), (stack(2), [3, 0, 8, 1]), (stack(3), [3, 6, 11, 7]), (sheet(6), [30, 1, 4]),
        )

    def test_last_one_taken(self):
        self.check(
            *FOURTEEN, (press(0, 8, 1), 0), (press(2, 9, 3), 1), (take(1), 3), (press(4, 10, 5), 1),
            (take(0), 3), (take(1), 3), (press(6, 11, 7), 0),
        )

    def test_refused_press_takes_no_number(self):
        self.check(
            *FOURTEEN, (press(0, 8), -16), (press(0, 8, 0), -22), (press(0, 8, 1), 0), (press(0, 9, 2), -17),
            (press(2, 9, 3), 1),
        )

    def test_from_0_again_after_a_second_start(self):
        self.check(*FOURTEEN, (press(0, 8, 1), 0), (press(2, 9, 3), 1), *FOURTEEN, (press(4, 10, 5), 0), (take(1), -2))


class TakeTest(LineTest):
    def test_sheets_lie_loose_again(self):
        self.check(
            *FOURTEEN, (press(0, 8, 1, 9, 2), 0), (press(3, 10, 4), 1), (loose(), [6, 3, 3]), (take(0), 5),
            (loose(), [11, 5, 6]), (sheet(0), [30, 1, 0]), (sheet(8), [20, 0, 0]), (sheet(9), [20, 0, 0]),
            (sheet(3), [30, 1, 2]), (stack(0), -2), (height(0), -2), (stack(1), [3, 3, 10, 4]), (state(), [14, 1, 5]),
            (take(1), 3), (loose(), [14, 6, 8]), (state(), [14, 0, 5]), (press(2, 8, 3), 0),
        )

    def test_no_such_stack(self):
        self.check(
            (start(0), 0), (take(0), -2), *FOURTEEN, (take(0), -2), (press(0, 8, 1), 0), (take(1), -2),
            (take(14), -2), (take(HUGE), -2), (take(HUGE - 1), -2), (stack(0), [3, 0, 8, 1]), (take(0), 3),
            (take(0), -2), (loose(), [14, 6, 8]),
        )


class SwapTest(LineTest):
    def test_within_one_stack(self):
        self.check(
            (start(0), 0), (minus(9), 0), (plus(5), 1), (minus(8), 2), (plus(6), 3), (minus(7), 4),
            (press(0, 1, 2, 3, 4), 0), (swap(0, 4), 0), (stack(0), [5, 4, 1, 2, 3, 0]), (swap(1, 3), 0),
            (stack(0), [5, 4, 3, 2, 1, 0]), (swap(2, 0), 0), (stack(0), [5, 4, 3, 0, 1, 2]), (height(0), [2, 9, 5]),
            (sheet(0), [9, 1, 1]), (sheet(2), [8, 1, 1]), (loose(), [0, 0, 0]), (state(), [5, 1, 0]),
        )

    def test_within_one_stack_that_were_none_then(self):
        self.check(
            (start(0), 0), (minus(6), 0), (plus(6), 1), (minus(9), 2), (plus(9), 3), (minus(9), 4),
            (press(0, 1, 2, 3, 4), 0), (swap(0, 2), -16), (swap(0, 4), -16), (swap(1, 3), -16), (swap(0, 1), -16),
            (swap(2, 3), -16), (swap(1, 4), -16), (stack(0), [5, 0, 1, 2, 3, 4]), (swap(4, 2), 0),
            (stack(0), [5, 0, 1, 4, 3, 2]),
        )

    def test_between_two_stacks(self):
        self.check(
            (start(5), 0), (minus(30), 0), (plus(20), 1), (minus(31), 2), (minus(40), 3), (plus(19), 4), (minus(50), 5),
            (press(0, 1, 2), 0), (press(3, 4, 5), 1), (swap(2, 3), 0), (stack(0), [3, 0, 1, 3]),
            (stack(1), [3, 2, 4, 5]), (sheet(2), [31, 1, 2]), (sheet(3), [40, 1, 1]), (height(0), [1, 40, 20]),
            (height(1), [1, 50, 19]), (swap(4, 1), 0), (stack(0), [3, 0, 4, 3]), (stack(1), [3, 2, 1, 5]),
            (height(0), [1, 40, 19]), (height(1), [1, 50, 20]), (sheet(1), [20, 0, 2]), (sheet(4), [19, 0, 1]),
            (loose(), [0, 0, 0]), (state(), [6, 2, 5]), (take(0), 3), (loose(), [3, 1, 2]), (sheet(1), [20, 0, 2]),
        )

    def test_between_two_stacks_either_of_which_were_none_then(self):
        begun = [
            (start(0), 0), (minus(5), 0), (plus(5), 1), (minus(5), 2), (minus(9), 3), (plus(9), 4), (minus(9), 5),
            (press(0, 1, 2), 0), (press(3, 4, 5), 1),
        ]
        as_before = [(stack(0), [3, 0, 1, 2]), (stack(1), [3, 3, 4, 5]), (sheet(0), [5, 1, 1]), (sheet(4), [9, 0, 2])]
        for i, j in ((0, 3), (2, 5), (1, 4), (0, 4), (1, 3), (2, 3), (1, 5)):
            self.check(*begun, (swap(i, j), -16), (swap(j, i), -16), *as_before)

    def test_between_a_stack_and_a_loose_sheet(self):
        self.check(
            (start(5), 0), (minus(30), 0), (plus(20), 1), (minus(30), 2), (minus(44), 3), (plus(12), 4),
            (press(0, 1, 2), 0), (loose(), [2, 1, 1]), (swap(0, 3), 0), (stack(0), [3, 3, 1, 2]),
            (sheet(0), [30, 1, 0]), (sheet(3), [44, 1, 1]), (height(0), [1, 44, 20]), (loose(), [2, 1, 1]),
            (swap(4, 1), 0), (stack(0), [3, 3, 4, 2]), (sheet(1), [20, 0, 0]), (sheet(4), [12, 0, 1]),
            (height(0), [1, 44, 12]), (loose(), [2, 1, 1]), (trim(1, 3), 20), (trim(4, 3), -16), (state(), [5, 1, 5]),
            (press(0, 4, 2), -17), (take(0), 3), (loose(), [5, 2, 3]),
        )

    def test_with_a_loose_sheet_just_enough_and_one_too_few(self):
        self.check(
            (start(5), 0), (minus(40), 0), (plus(20), 1), (minus(40), 2), (minus(30), 3), (minus(29), 4),
            (plus(30), 5), (plus(31), 6), (press(0, 1, 2), 0), (swap(2, 4), -16), (swap(4, 0), -16), (swap(1, 6), -16),
            (swap(6, 1), -16), (swap(1, 5), 0), (swap(2, 3), -16), (swap(5, 1), 0), (swap(2, 3), 0),
            (stack(0), [3, 0, 1, 3]), (loose(), [4, 2, 2]),
        )

    def test_of_the_two_signs(self):
        # Each would fit where it comes to lie, were it of the other sign.
        self.check(
            (start(0), 0), (minus(9), 0), (plus(9), 1), (minus(9), 2), (plus(9), 3), (minus(9), 4), (press(0, 1, 2), 0),
            (swap(0, 1), -16), (swap(0, 3), -16), (swap(3, 0), -16), (swap(1, 4), -16), (swap(4, 1), -16),
            (stack(0), [3, 0, 1, 2]), (loose(), [2, 1, 1]),
        )

    def test_of_a_sheet_with_itself(self):
        self.check(
            *FOURTEEN, (press(0, 8, 1), 0), (swap(0, 0), -16), (swap(8, 8), -16), (swap(2, 2), -6), (swap(9, 9), -6),
            (swap(14, 14), -2), (stack(0), [3, 0, 8, 1]),
        )

    def test_of_two_that_lie_loose(self):
        self.check(
            *FOURTEEN, (swap(0, 1), -6), (swap(0, 8), -6), (press(0, 8, 1), 0), (swap(2, 3), -6), (swap(2, 9), -6),
            (take(0), 3), (swap(0, 2), -6), (swap(8, 8), -6),
        )

    def test_no_such_sheet_goes_first(self):
        self.check(
            (start(0), 0), (swap(0, 0), -2), *FOURTEEN, (press(0, 8, 1), 0), (swap(14, 0), -2), (swap(0, 14), -2),
            (swap(14, 2), -2), (swap(2, 14), -2), (swap(HUGE, HUGE), -2), (swap(HUGE, 0), -2), (swap(8, HUGE), -2),
        )

    def test_of_two_alike(self):
        self.check(
            *FOURTEEN, (press(0, 8, 1, 9, 2), 0), (press(3, 10, 4), 1), (swap(0, 2), 0), (swap(8, 9), 0),
            (stack(0), [5, 2, 9, 1, 8, 0]), (swap(1, 4), 0), (stack(0), [5, 2, 9, 4, 8, 0]), (stack(1), [3, 3, 10, 1]),
            (swap(7, 3), 0), (stack(1), [3, 7, 10, 1]), (sheet(3), [30, 1, 0]), (sheet(7), [30, 1, 2]),
            (sheet(4), [30, 1, 1]), (sheet(1), [30, 1, 2]), (loose(), [6, 3, 3]), (height(0), [2, 30, 20]),
        )

    def test_twice_is_as_before(self):
        self.check(
            *FOURTEEN, (press(0, 8, 1), 0), (swap(0, 5), 0), (swap(0, 5), 0), (stack(0), [3, 0, 8, 1]),
            (swap(1, 0), 0), (swap(1, 0), 0), (stack(0), [3, 0, 8, 1]), (loose(), [11, 5, 6]),
        )

    def test_keeps_the_numbers_of_the_stacks(self):
        self.check(
            *FOURTEEN, (press(0, 8, 1), 0), (press(2, 9, 3), 1), (press(4, 10, 5), 2), (take(1), 3), (swap(0, 4), 0),
            (swap(1, 2), 0), (stack(0), [3, 4, 8, 2]), (stack(1), -2), (stack(2), [3, 0, 10, 5]), (press(1, 9, 3), 1),
        )


class AgainstOrdersToldTest(LineTest):
    """Small stacks, each swap of which is held against what a stack is."""

    def is_stack(self, laid, signs, widths):
        for lower, upper in zip(laid, laid[1:]):
            if signs[lower] == signs[upper]:
                return False
            low, high = sorted((lower, upper), key=lambda i: signs[i])
            if widths[high] < widths[low] + 2:
                return False
        return signs[laid[0]] == 1

    def test_every_swap(self):
        signs = (1, 0, 1, 0, 1, 1, 0)
        lay = (plus, minus)
        for some in product((3, 4, 5), repeat=4):
            widths = (some[0], 1, some[1], 2, some[2], some[3], 3)
            laid = (0, 1, 2, 3, 4)
            if not self.is_stack(laid, signs, widths):
                continue
            begun = [(start(1), 0)]
            begun += [(lay[signs[i]](widths[i]), i) for i in range(7)]
            begun.append((press(*laid), 0))
            for i, j in permutations(range(7), 2):
                swapped = [{i: j, j: i}.get(one, one) for one in laid]
                told, stands = -16, list(laid)
                if i > 4 and j > 4:
                    told = -6
                elif self.is_stack(swapped, signs, widths):
                    told, stands = 0, swapped
                where = [(sheet(one), [widths[one], signs[one], int(one in stands)]) for one in range(7)]
                self.check(*begun, (swap(i, j), told), (stack(0), [5, *stands]), *where, (loose(), [2, 1, 1]))
