"""Promise 2: could and need."""

from itertools import combinations_with_replacement, permutations

from stackedsheets.factory import answers
from tests.lines import HUGE, LineTest, could, fit, joined, minus, need, plus, start

# More is never asked for than this: the widest plus and twice the widest reach.
WIDEST_NEED = 1200


def has_an_order(p, m, reach):
    if not p or len(m) != len(p) + 1:
        return False
    for above in permutations(m):
        if all(min(above[k], above[k + 1]) - p[k] >= 2 * reach for k in range(len(p))):
            return True
    return False


def least_of_all(p, m, reach, highest):
    for wide in range(1, highest + 1):
        if has_an_order(p, m + [wide], reach):
            return wide
    return -33


class CouldTest(LineTest):
    def test_just_enough_and_one_too_few(self):
        self.check(
            (start(5), 0), (could([20], [30, 30]), 1), (could([20], [30, 29]), 0), (could([21], [30, 30]), 0),
            (could([20, 40], [30, 50, 50]), 1), (could([20, 40], [50, 30, 50]), 1),
            (could([20, 40], [30, 49, 50]), 0), (could([40, 20], [50, 50, 29]), 0),
        )

    def test_wide_plus_between_the_two_widest(self):
        self.check(
            (start(0), 0), (could([9, 1, 1], [1, 1, 9, 9]), 1), (could([9, 1, 1], [1, 8, 8, 9]), 0),
            (could([9, 9, 1], [1, 9, 9, 9]), 1), (could([9, 9, 1], [8, 8, 9, 9]), 0),
        )

    def test_as_many_as_there_should_be(self):
        self.check(
            (start(0), 0), (could([], []), 0), (could([], [5]), 0), (could([1], []), 0), (could([1], [5]), 0),
            (could([1], [5, 5]), 1), (could([1], [5, 5, 5]), 0), (could([1, 1], [5, 5]), 0), (could([], [5, 5]), 0),
        )

    def test_seven_and_eight_and_one_more(self):
        self.check(
            (start(0), 0), (could([5] * 7, [5] * 8), 1), (could([5] * 8, [5] * 8), -22),
            (could([5] * 8, [5] * 9), -22), (could([5] * 7, [5] * 9), -22), (could([], [5] * 9), -22),
            (could([5] * 8, []), -22), (could([5] * 60, [5] * 60), -22), (could([5] * 7, [5] * 7), 0),
            (could([], [5] * 8), 0), (could([5] * 7, []), 0),
        )

    def test_widths_at_their_edges(self):
        self.check(
            (start(0), 0), (could([1], [1, 1000]), 1), (could([1000], [1000, 1000]), 1),
            (could([0], [5, 5]), -22), (could([1001], [5, 5]), -22), (could([5], [5, 0]), -22),
            (could([5], [1001, 5]), -22), (could([HUGE], [5, 5]), -22), (could([5], [HUGE, HUGE]), -22),
        )

    def test_wrong_width_goes_before_wrong_number(self):
        self.check(
            (start(0), 0), (could([0], []), -22), (could([], [1001]), -22), (could([], [0, 5]), -22),
            (could([5, 5, 5, 0], [5]), -22),
        )

    def test_widest_reach(self):
        self.check(
            (start(100), 0), (could([1], [201, 201]), 1), (could([1], [201, 200]), 0),
            (could([800], [1000, 1000]), 1), (could([801], [1000, 1000]), 0),
        )

    def test_goes_by_the_reach_and_not_by_the_sheets(self):
        self.check(
            (start(1), 0), (could([5], [7, 7]), 1), (plus(5), 0), (could([5], [7, 7]), 1),
            (start(2), 0), (could([5], [7, 7]), 0), (minus(9), 0), (fit(0, 0), 0), (could([5], [9, 9]), 1),
        )


class NeedTest(LineTest):
    def test_just_so_wide(self):
        self.check(
            (start(5), 0), (need([20], [30]), 30), (need([20], [1000]), 30), (need([20], [29]), -33),
            (need([20, 40], [30, 50]), 50), (need([20, 40], [50, 50]), 30), (need([40, 20], [50, 49]), 50),
            (need([40, 40], [50, 49]), -33), (need([20, 40], [29, 50]), -33),
        )

    def test_so_wide_is_enough_and_one_less_is_not(self):
        self.check(
            (start(3), 0), (need([9, 5, 7], [11, 15, 14]), 15), (could([9, 5, 7], [11, 15, 14, 15]), 1),
            (could([9, 5, 7], [11, 15, 14, 14]), 0), (need([9, 5, 7], [15, 15, 14]), 11),
            (could([9, 5, 7], [15, 15, 14, 11]), 1), (could([9, 5, 7], [15, 15, 14, 10]), 0),
        )

    def test_more_than_a_sheet_can_be_wide(self):
        self.check(
            (start(100), 0), (need([800], [1000]), 1000), (need([801], [1000]), -33), (need([1], [1000]), 201),
            (start(1), 0), (need([998], [1000]), 1000), (need([999], [1000]), -33),
        )

    def test_as_many_as_there_should_be(self):
        self.check(
            (start(0), 0), (need([], []), -33), (need([5], []), -33), (need([], [5]), -33), (need([5], [5, 5]), -33),
            (need([5, 5], [5]), -33), (need([5], [5]), 5), (need([1], [1]), 1),
        )

    def test_seven_and_eight_and_one_more(self):
        self.check(
            (start(0), 0), (need([5] * 7, [5] * 7), 5), (need([5] * 7, [5] * 8), -33), (need([5] * 7, [5] * 9), -22),
            (need([5] * 8, [5] * 8), -22), (need([5] * 8, [5] * 7), -22), (need([], [5] * 8), -33),
            (need([], [5] * 9), -22), (need([5] * 60, [5] * 60), -22),
        )

    def test_widths_at_their_edges(self):
        self.check(
            (start(0), 0), (need([1000], [1000]), 1000), (need([1], [1000]), 1), (need([0], [5]), -22),
            (need([1001], [5]), -22), (need([5], [0]), -22), (need([5], [1001]), -22),
            (need([HUGE], [5]), -22), (need([5], [HUGE]), -22),
        )

    def test_wrong_width_goes_before_wrong_number(self):
        self.check(
            (start(0), 0), (need([0], []), -22), (need([], [1001]), -22), (need([5], [5, 0]), -22),
            (need([1000], [1001]), -22),
        )


class AgainstAllOrdersTest(LineTest):
    def check_all(self, p_widths, m_widths, count, reach):
        pairs = [(start(reach), 0)]
        for p in combinations_with_replacement(p_widths, count):
            for m in combinations_with_replacement(m_widths, count + 1):
                pairs.append((could(p[::-1], m), int(has_an_order(p, m, reach))))
            for m in combinations_with_replacement(m_widths, count):
                pairs.append((need(p, m[::-1]), least_of_all(p, list(m), reach, 12)))
        for first in range(1, len(pairs), 199):
            self.check(pairs[0], *pairs[first:first + 199])

    def test_one_and_two_plus(self):
        for reach in (0, 1, 2):
            self.check_all(range(1, 6), range(1, 11), 1, reach)
            self.check_all(range(1, 5), range(1, 8), 2, reach)

    def test_three_plus(self):
        for reach in (0, 1):
            self.check_all((1, 2, 4), (1, 2, 3, 4, 6), 3, reach)

    def test_need_is_told_if_and_only_if_the_widest_is_enough(self):
        widths = (3, 5, 8, 9)
        calls = []
        for p in combinations_with_replacement(widths, 4):
            for m in combinations_with_replacement(widths, 4):
                calls.append((list(p), list(m)))
        for p, m in calls:
            told = answers(joined([start(0), need(p, m), could(p, m + [1000])]))
            self.assertEqual(told[3] > 0, told[5] == 1)
            if told[3] > 0:
                checks = joined([start(0), could(p, m + [told[3]]), could(p, m + [told[3] - 1])])
                self.assertEqual(answers(checks), [1, 0, 1, 1, 1, 0])
