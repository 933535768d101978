"""Promise 4: loose, stack, height, sheet, state."""

from tests.lines import (
    HUGE, LineTest, height, loose, minus, plus, press, sheet, stack, start, state, swap, take, trim,
)


class LooseTest(LineTest):
    def test_how_many_then_plus_then_minus(self):
        self.check(
            (start(0), 0), (loose(), [0, 0, 0]), (plus(5), 0), (loose(), [1, 1, 0]), (minus(5), 1),
            (loose(), [2, 1, 1]), (minus(5), 2), (loose(), [3, 1, 2]), (minus(5), 3), (loose(), [4, 1, 3]),
            (press(1, 0, 3), 0), (loose(), [1, 0, 1]), (plus(4), 4), (loose(), [2, 1, 1]), (swap(0, 4), 0),
            (loose(), [2, 1, 1]), (trim(0, 1), 5), (loose(), [2, 1, 1]), (take(0), 3), (loose(), [5, 2, 3]),
            (start(0), 0), (loose(), [0, 0, 0]),
        )

    def test_all_fourteen(self):
        self.check(
            (start(0), 0), *[(minus(5), i) for i in range(14)], (loose(), [14, 0, 14]), (plus(5), -28),
            (loose(), [14, 0, 14]),
        )


class StackTest(LineTest):
    def test_how_many_then_these_from_below(self):
        self.check(
            (start(0), 0), (minus(5), 0), (minus(6), 1), (plus(3), 2), (plus(4), 3), (minus(7), 4), (minus(5), 5),
            (press(4, 2, 0, 3, 1), 0), (stack(0), [5, 4, 2, 0, 3, 1]), (swap(4, 1), 0), (stack(0), [5, 1, 2, 0, 3, 4]),
            (swap(5, 0), 0), (stack(0), [5, 1, 2, 5, 3, 4]), (take(0), 5), (stack(0), -2), (press(4, 3, 1), 0),
            (stack(0), [3, 4, 3, 1]),
        )

    def test_no_such_stack(self):
        self.check(
            (start(0), 0), (stack(0), -2), (height(0), -2), (minus(5), 0), (plus(5), 1), (minus(5), 2), (stack(0), -2),
            (height(0), -2), (press(0, 1, 2), 0), (stack(1), -2), (height(1), -2), (stack(13), -2), (height(13), -2),
            (stack(HUGE), -2), (height(HUGE), -2), (stack(HUGE - 1), -2), (height(HUGE - 1), -2),
            (stack(0), [3, 0, 1, 2]), (height(0), [1, 5, 5]), (take(0), 3), (stack(0), -2), (height(0), -2),
            (press(0, 1, 2), 0), (start(0), 0), (stack(0), -2), (height(0), -2),
        )

    def test_one_taken_from_between(self):
        sheets = [((minus, plus, minus)[i % 3](5), i) for i in range(9)]
        self.check(
            (start(0), 0), *sheets, (press(0, 1, 2), 0), (press(3, 4, 5), 1), (press(6, 7, 8), 2), (take(1), 3),
            (stack(0), [3, 0, 1, 2]), (stack(1), -2), (height(1), -2), (stack(2), [3, 6, 7, 8]),
            (height(2), [1, 5, 5]), (state(), [9, 2, 0]),
        )


class HeightTest(LineTest):
    def test_plus_sheets_then_the_widest_minus_then_the_narrowest(self):
        self.check(
            (start(1), 0), (minus(9), 0), (minus(12), 1), (minus(10), 2), (plus(7), 3), (plus(6), 4), (minus(11), 5),
            (plus(9), 6), (press(0, 3, 1, 4, 2), 0), (height(0), [2, 12, 6]), (take(0), 5), (press(2, 3, 0), 0),
            (height(0), [1, 10, 7]), (press(5, 6, 1), 1), (height(1), [1, 12, 9]), (height(0), [1, 10, 7]),
        )

    def test_widest_and_narrowest_at_each_place(self):
        for widest in (0, 2, 4):
            for narrowest in (1, 3):
                widths = [50, 30, 50, 30, 50]
                widths[widest], widths[narrowest] = 60, 20
                sheets = [((minus, plus)[i % 2](wide), i) for i, wide in enumerate(widths)]
                self.check((start(10), 0), *sheets, (press(0, 1, 2, 3, 4), 0), (height(0), [2, 60, 20]))

    def test_all_alike(self):
        sheets = [((minus, plus)[i % 2](7), i) for i in range(13)]
        self.check((start(0), 0), *sheets, (press(*range(13)), 0), (height(0), [6, 7, 7]))

    def test_after_a_swap_and_after_a_trim(self):
        self.check(
            (start(0), 0), (minus(50), 0), (plus(30), 1), (minus(40), 2), (minus(45), 3), (plus(35), 4),
            (press(0, 1, 2), 0), (height(0), [1, 50, 30]), (swap(0, 3), 0), (height(0), [1, 45, 30]), (swap(4, 1), 0),
            (height(0), [1, 45, 35]), (take(0), 3), (trim(3, 38), 45), (trim(4, 33), 35), (press(2, 4, 3), 0),
            (height(0), [1, 40, 33]),
        )


class SheetTest(LineTest):
    def test_how_wide_then_its_sign_then_its_stack(self):
        self.check(
            (start(0), 0), (minus(50), 0), (plus(30), 1), (minus(40), 2), (minus(1000), 3), (plus(1), 4),
            (minus(1), 5), (sheet(0), [50, 1, 0]), (sheet(1), [30, 0, 0]), (sheet(3), [1000, 1, 0]),
            (sheet(4), [1, 0, 0]), (sheet(5), [1, 1, 0]), (press(0, 1, 2), 0), (press(3, 4, 5), 1),
            (sheet(0), [50, 1, 1]), (sheet(1), [30, 0, 1]), (sheet(2), [40, 1, 1]), (sheet(3), [1000, 1, 2]),
            (sheet(4), [1, 0, 2]), (sheet(5), [1, 1, 2]), (take(0), 3), (sheet(0), [50, 1, 0]),
            (sheet(1), [30, 0, 0]), (sheet(4), [1, 0, 2]), (trim(0, 49), 50), (sheet(0), [49, 1, 0]),
        )

    def test_after_a_swap(self):
        self.check(
            (start(0), 0), (minus(9), 0), (plus(5), 1), (minus(8), 2), (minus(7), 3), (press(0, 1, 2), 0),
            (swap(3, 2), 0), (sheet(2), [8, 1, 0]), (sheet(3), [7, 1, 1]), (sheet(0), [9, 1, 1]), (swap(3, 0), 0),
            (sheet(0), [9, 1, 1]), (sheet(3), [7, 1, 1]),
        )

    def test_no_such_sheet(self):
        self.check(
            (start(0), 0), (sheet(0), -2), (plus(5), 0), (sheet(0), [5, 0, 0]), (sheet(1), -2), (sheet(HUGE), -2),
            (sheet(HUGE - 1), -2), (start(0), 0), (sheet(0), -2),
        )

    def test_second_start_forgets_the_stack(self):
        self.check(
            (start(0), 0), (minus(9), 0), (plus(5), 1), (minus(8), 2), (press(0, 1, 2), 0), (start(0), 0),
            (plus(4), 0), (sheet(0), [4, 0, 0]), (sheet(1), -2), (loose(), [1, 1, 0]), (stack(0), -2),
        )


class StateTest(LineTest):
    def test_sheets_then_stacks_then_the_reach(self):
        self.check(
            (start(7), 0), (state(), [0, 0, 7]), (minus(50), 0), (state(), [1, 0, 7]), (plus(30), 1), (minus(50), 2),
            (state(), [3, 0, 7]), (press(0, 1, 2), 0), (state(), [3, 1, 7]), (minus(60), 3), (plus(1), 4),
            (minus(60), 5), (press(3, 4, 5), 1), (state(), [6, 2, 7]), (swap(0, 3), 0), (state(), [6, 2, 7]),
            (take(0), 3), (state(), [6, 1, 7]), (trim(1, 29), 30), (state(), [6, 1, 7]), (take(1), 3),
            (state(), [6, 0, 7]),
        )

    def test_behind_a_second_start(self):
        begun = [(minus(50), 0), (plus(1), 1), (minus(50), 2), (press(0, 1, 2), 0)]
        self.check(
            (start(7), 0), *begun, (start(0), 0), (state(), [0, 0, 0]), (start(100), 0), (state(), [0, 0, 100]),
            (start(20), 0), *begun, (start(101), -22), (state(), [3, 1, 20]), (start(HUGE), -22),
            (state(), [3, 1, 20]), (stack(0), [3, 0, 1, 2]),
        )

    def test_four_stacks_of_fourteen(self):
        sheets = [(minus(5), i) for i in range(8)] + [(plus(5), i) for i in range(8, 14)]
        pressed = [(press(2 * i, 8 + i, 2 * i + 1), i) for i in range(4)]
        self.check((start(0), 0), *sheets, *pressed, (state(), [14, 4, 0]), (loose(), [2, 2, 0]))
