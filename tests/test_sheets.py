"""Promise 1: start, plus, minus, trim, fit, over, under."""

from tests.lines import HUGE, LineTest, fit, minus, over, plus, press, sheet, start, swap, take, trim, under


class StartTest(LineTest):
    def test_reach_at_its_edges(self):
        for reach in (0, 1, 99, 100):
            self.check((start(reach), 0), (plus(1), 0))
        for reach in (101, 102, HUGE):
            self.check((start(reach), -22))

    def test_second_start_clears_all(self):
        self.check(
            (start(10), 0), (minus(50), 0), (plus(30), 1), (fit(0, 1), 1),
            (start(11), 0), (fit(0, 1), -2), (trim(0, 5), -2),
            (minus(50), 0), (plus(30), 1), (fit(0, 1), 0),
        )

    def test_second_start_makes_room_again(self):
        full = [(plus(5), i) for i in range(14)]
        self.check((start(0), 0), *full, (plus(5), -28), (start(0), 0), *full, (minus(5), -28))

    def test_second_start_leaves_no_stack(self):
        self.check(
            (start(10), 0), (minus(50), 0), (plus(30), 1), (minus(50), 2), (press(0, 1, 2), 0), (start(9), 0),
            (take(0), -2), (minus(50), 0), (trim(0, 49), 50), (plus(30), 1), (minus(50), 2), (sheet(2), [50, 1, 0]),
            (press(2, 1, 0), 0),
        )

    def test_refused_second_start_changes_nothing(self):
        self.check(
            (start(10), 0), (minus(50), 0), (plus(30), 1),
            (start(101), -22), (start(HUGE), -22),
            (fit(0, 1), 1), (trim(0, 49), 50), (fit(0, 1), 0), (plus(1), 2),
        )


class PlusMinusTest(LineTest):
    def test_numbers_from_0(self):
        self.check((start(0), 0), (plus(7), 0), (minus(7), 1), (minus(9), 2), (plus(8), 3))

    def test_width_at_its_edges(self):
        for lay in (plus, minus):
            self.check(
                (start(0), 0), (lay(0), -22), (lay(1), 0), (lay(1000), 1),
                (lay(1001), -22), (lay(HUGE), -22), (lay(2), 2),
                (trim(0, 1), -22), (trim(1, 999), 1000), (trim(2, 1), 2),
            )

    def test_fourteenth_and_one_more(self):
        sheets = [((plus, minus)[i % 2](20 + i), i) for i in range(14)]
        self.check(
            (start(0), 0), *sheets, (plus(5), -28), (minus(5), -28),
            (trim(13, 5), 33), (fit(14, 0), -2), (fit(0, 13), 0),
        )

    def test_wrong_width_goes_before_no_room(self):
        sheets = [(minus(3), i) for i in range(14)]
        self.check(
            (start(0), 0), *sheets, (plus(0), -22), (minus(0), -22),
            (plus(1001), -22), (minus(1001), -22), (plus(1000), -28), (minus(1), -28),
        )


class TrimTest(LineTest):
    def test_answers_how_wide_it_was_and_cuts(self):
        self.check(
            (start(0), 0), (minus(50), 0), (plus(50), 1), (fit(0, 1), 1),
            (trim(0, 49), 50), (fit(0, 1), 0), (trim(1, 49), 50), (fit(0, 1), 1),
            (trim(0, 1), 49), (trim(1, 1), 49), (fit(0, 1), 1), (trim(0, 1), -22),
        )

    def test_width_at_its_edges(self):
        self.check(
            (start(0), 0), (plus(50), 0), (trim(0, 0), -22), (trim(0, 50), -22),
            (trim(0, 51), -22), (trim(0, HUGE), -22), (trim(0, 49), 50), (trim(0, 49), -22),
            (trim(0, 1), 49), (trim(0, 0), -22),
        )

    def test_no_such_sheet_goes_first(self):
        self.check(
            (start(0), 0), (trim(0, 5), -2), (plus(9), 0), (trim(1, 5), -2), (trim(1, 0), -2),
            (trim(HUGE, HUGE), -2), (trim(0, 5), 9),
        )

    def test_sheet_in_a_stack_goes_before_wrong_width(self):
        laid = [(minus(50), 0), (plus(40), 1), (minus(50), 2), (minus(60), 3)]
        refused = [(trim(i, wide), -16) for i in (0, 1, 2) for wide in (0, 1, 39, 45, 50, 51, HUGE)]
        self.check(
            (start(0), 0), *laid, (press(0, 1, 2), 0), *refused, (trim(4, 0), -2), (trim(3, 0), -22),
            (sheet(0), [50, 1, 1]), (sheet(1), [40, 0, 1]), (sheet(2), [50, 1, 1]),
        )

    def test_once_it_lies_loose_again(self):
        self.check(
            (start(0), 0), (minus(50), 0), (plus(40), 1), (minus(50), 2), (minus(60), 3), (press(0, 1, 2), 0),
            (trim(3, 45), 60), (swap(0, 3), 0), (trim(3, 44), -16), (trim(0, 10), 50),
            (take(0), 3), (trim(1, 39), 40), (trim(2, 1), 50), (trim(3, 44), 45),
        )

    def test_over_and_under_and_fit_look_at_sheets_in_stacks_too(self):
        self.check(
            (start(0), 0), (minus(50), 0), (plus(40), 1), (minus(50), 2), (plus(45), 3), (press(0, 1, 2), 0),
            (over(0), [2, 1, 3]), (under(1), [2, 0, 2]), (under(3), [2, 0, 2]), (fit(0, 3), 1), (fit(1, 2), 1),
        )


class FitTest(LineTest):
    def test_just_enough_and_one_too_few(self):
        self.check(
            (start(10), 0), (minus(50), 0), (plus(30), 1), (plus(31), 2), (minus(49), 3),
            (fit(0, 1), 1), (fit(1, 0), 1), (fit(0, 2), 0), (fit(2, 0), 0),
            (fit(3, 1), 0), (fit(1, 3), 0),
        )

    def test_reach_of_0(self):
        self.check(
            (start(0), 0), (minus(30), 0), (plus(30), 1), (plus(31), 2), (plus(29), 3),
            (fit(0, 1), 1), (fit(2, 0), 0), (fit(0, 3), 1),
        )

    def test_two_of_one_sign_or_the_same_one(self):
        self.check(
            (start(0), 0), (minus(30), 0), (minus(50), 1), (plus(3), 2), (plus(1), 3),
            (fit(0, 1), 0), (fit(1, 0), 0), (fit(2, 3), 0), (fit(3, 2), 0),
            (fit(0, 0), 0), (fit(2, 2), 0),
        )

    def test_widest_and_narrowest_at_the_widest_reach(self):
        self.check(
            (start(100), 0), (minus(1000), 0), (plus(800), 1), (plus(801), 2),
            (minus(201), 3), (minus(200), 4), (plus(1), 5),
            (fit(0, 1), 1), (fit(0, 2), 0), (fit(3, 5), 1), (fit(4, 5), 0),
        )

    def test_no_such_sheet(self):
        self.check(
            (start(0), 0), (fit(0, 0), -2), (minus(5), 0), (fit(0, 1), -2), (fit(1, 0), -2),
            (fit(0, HUGE), -2), (fit(HUGE, HUGE), -2),
        )


class OverUnderTest(LineTest):
    def test_how_many_then_these_rising(self):
        self.check(
            (start(5), 0), (plus(40), 0), (minus(50), 1), (plus(41), 2), (plus(20), 3),
            (minus(49), 4), (minus(60), 5),
            (over(1), [2, 0, 3]), (over(4), [1, 3]), (over(5), [3, 0, 2, 3]),
            (under(0), [2, 1, 5]), (under(2), [1, 5]), (under(3), [3, 1, 4, 5]),
        )

    def test_over_none_and_under_none(self):
        self.check(
            (start(1), 0), (minus(9), 0), (over(0), [0]), (plus(8), 1), (over(0), [0]),
            (under(1), [0]), (minus(9), 2), (over(2), [0]), (under(1), [0]),
        )

    def test_two_alike(self):
        self.check(
            (start(0), 0), (plus(9), 0), (plus(9), 1), (minus(9), 2), (minus(9), 3),
            (over(2), [2, 0, 1]), (over(3), [2, 0, 1]), (under(0), [2, 2, 3]), (under(1), [2, 2, 3]),
        )

    def test_after_a_trim(self):
        self.check(
            (start(0), 0), (plus(9), 0), (minus(9), 1), (over(1), [1, 0]), (trim(1, 8), 9),
            (over(1), [0]), (under(0), [0]), (trim(0, 8), 9), (over(1), [1, 0]), (under(0), [1, 1]),
        )

    def test_all_fourteen(self):
        sheets = [(plus(1), i) for i in range(13)]
        self.check((start(100), 0), *sheets, (minus(201), 13), (over(13), [13, *range(13)]))

    def test_refusals(self):
        self.check(
            (start(0), 0), (over(0), -2), (under(0), -2), (plus(5), 0), (minus(5), 1),
            (over(0), -13), (under(1), -13), (over(2), -2), (under(2), -2),
            (over(HUGE), -2), (under(HUGE), -2), (over(1), [1, 0]), (under(0), [1, 1]),
        )
