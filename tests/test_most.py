"""Promise 3: most, also held against a search through all ways to lay such stacks."""

from itertools import combinations, combinations_with_replacement, permutations, product
from unittest import TestCase

from stackedsheets.factory import answers
from tests.lines import HUGE, LineTest, joined, minus, most, plus, press, start, state, swap, take, trim


def has_an_order(p, m, reach):
    """Whether these can be stacked, found by laying the minus ones in every order beside the plus ones."""
    for beside in permutations(m):
        if all(min(beside[i], beside[i + 1]) - p[i] >= 2 * reach for i in range(len(p))):
            return True
    return False


def all_stacks(p, m, k, reach):
    """Every choice of k plus and k + 1 minus sheets that can be stacked, as two sets of places."""
    found = []
    known = {}
    for some_p in combinations(range(len(p)), k):
        for some_m in combinations(range(len(m)), k + 1):
            widths = (tuple(sorted(p[i] for i in some_p)), tuple(sorted(m[i] for i in some_m)))
            if widths not in known:
                known[widths] = has_an_order(*widths, reach)
            if known[widths]:
                found.append((set(some_p), set(some_m)))
    return found


def most_at_once(stacks, first=0):
    """The most of these stacks that have no sheet in common."""
    best = 0
    for place in range(first, len(stacks)):
        some_p, some_m = stacks[place]
        others = [(q, n) for q, n in stacks[place + 1:] if not q & some_p and not n & some_m]
        best = max(best, 1 + most_at_once(others))
    return best


def laid(p, m):
    calls = [plus(wide) for wide in p] + [minus(wide) for wide in m]
    return [(call, i) for i, call in enumerate(calls)]


class MostTest(LineTest):
    def test_wrong_k(self):
        begun = [(start(0), 0), *laid([5] * 3, [5] * 4)]
        self.check(
            *begun, (most(0), -22), (most(1), 2), (most(2), 1), (most(3), 1), (most(4), -22), (most(HUGE), -22),
        )
        self.check((start(0), 0), (most(0), -22), (most(1), 0), (most(2), 0), (most(3), 0), (most(4), -22))

    def test_too_few_of_a_sign(self):
        for p, m, told in (
            (0, 14, (0, 0, 0)), (14, 0, (0, 0, 0)), (1, 1, (0, 0, 0)), (1, 2, (1, 0, 0)), (1, 13, (1, 0, 0)),
            (2, 3, (1, 1, 0)), (2, 2, (1, 0, 0)), (2, 4, (2, 1, 0)), (3, 4, (2, 1, 1)), (3, 3, (1, 1, 0)),
            (4, 6, (3, 2, 1)), (4, 5, (2, 1, 1)), (3, 6, (3, 1, 1)), (6, 8, (4, 2, 2)), (5, 9, (4, 2, 1)),
            (6, 7, (3, 2, 1)), (5, 8, (4, 2, 1)), (4, 10, (4, 2, 1)), (11, 3, (1, 1, 0)),
        ):
            self.check(
                (start(0), 0), *laid([7] * p, [7] * m), (most(1), told[0]), (most(2), told[1]), (most(3), told[2]),
            )

    def test_widths_just_enough_and_one_too_few(self):
        for reach in (0, 1, 100):
            wide = 20 + 2 * reach
            self.check(
                (start(reach), 0), *laid([20, 20, 20], [wide] * 4), (most(1), 2), (most(2), 1), (most(3), 1),
                (trim(3, wide - 1), wide), (most(1), 1), (most(2), 1), (most(3), 0),
                (trim(4, wide - 1), wide), (most(1), 1), (most(2), 0), (most(3), 0),
                (trim(5, wide - 1), wide), (most(1), 0), (most(2), 0), (most(3), 0),
            )

    def test_wide_plus_between_the_two_widest(self):
        self.check(
            (start(0), 0), *laid([20, 10], [10, 20, 20]), (most(2), 1), (most(1), 1), (trim(4, 19), 20), (most(2), 0),
            (most(1), 1),
        )

    def test_the_widest_lie_in_one_stack(self):
        # Three minus sheets are wide enough for the two wide plus ones in one stack, not in two.
        self.check(
            (start(0), 0), *laid([9, 9, 5, 5], [9, 9, 9, 5, 5, 5]), (most(2), 2), (most(1), 3), (most(3), 1),
            (trim(4, 8), 9), (most(2), 1),
        )
        self.check(
            (start(0), 0), *laid([9, 5, 9, 5, 9, 5], [5, 9, 5, 9, 5, 9, 5, 9]), (most(3), 2), (trim(13, 8), 9),
            (most(3), 1), (most(2), 2), (most(1), 4),
        )

    def test_narrow_plus_and_wide_minus_ones_are_taken(self):
        self.check(
            (start(0), 0), *laid([900, 5, 800, 6], [1, 5, 2, 6, 6]), (most(1), 1), (most(2), 1), (most(3), 0),
        )

    def test_only_what_lies_loose(self):
        self.check(
            (start(0), 0), *laid([5] * 4, [9] * 8), (most(1), 4), (most(2), 2), (most(3), 1), (press(4, 0, 5), 0),
            (most(1), 3), (most(2), 1), (most(3), 1), (press(6, 1, 7, 2, 8), 1), (most(1), 1), (most(2), 0),
            (most(3), 0), (take(0), 3), (most(1), 2), (most(2), 1), (most(3), 0), (take(1), 5), (most(1), 4),
            (press(4, 0, 5, 1, 6, 2, 7), 0), (most(1), 1), (plus(5), 12), (most(1), 2), (state(), [13, 1, 0]),
        )

    def test_what_a_swap_lays_loose(self):
        self.check(
            (start(0), 0), *laid([5, 7], [7, 7, 6, 6]), (press(2, 0, 3), 0), (most(1), 0), (swap(2, 4), 0),
            (most(1), 0), (swap(3, 5), 0), (most(1), 1), (swap(0, 1), -16), (most(1), 1),
        )

    def test_a_line_with_many_calls(self):
        widths = [6, 3, 9, 4, 8, 5]
        sheets = laid(widths, [9, 4, 8, 5, 9, 6, 7, 9])
        self.check((start(0), 0), *sheets, *[(most(1), 4), (most(2), 2), (most(3), 2)] * 61, (most(4), -22))
        alike = laid([7] * 6, [7] * 8)
        self.check((start(0), 0), *alike, *[(most(3), 2), (most(2), 2), (most(1), 4)] * 61, (most(0), -22))


class AgainstAllWaysTest(TestCase):
    def hold(self, p, m, reach, counts):
        asked = answers(joined([start(reach), *[call for call, i in laid(p, m)], *[most(k) for k in counts]]))
        told = asked[-1:-2 * len(counts):-2][::-1]
        expected = [most_at_once(all_stacks(p, m, k, reach)) for k in counts]
        self.assertEqual(told, expected, (p, m, reach, counts))

    def test_of_one_plus(self):
        for p in combinations_with_replacement((1, 2, 3, 4), 3):
            for m in combinations_with_replacement((2, 3, 4, 6), 5):
                for reach in (0, 1):
                    self.hold(p, m, reach, (1, 2, 3))

    def test_of_one_or_two_plus_of_four(self):
        for p in combinations_with_replacement((1, 3, 4), 4):
            for m in combinations_with_replacement((3, 4, 6), 6):
                self.hold(p[::-1], m, 0, (1, 2))

    def test_of_one_to_three_plus_with_a_reach(self):
        for p in combinations_with_replacement((1, 2, 4), 4):
            for m in combinations_with_replacement((3, 4, 6), 5):
                self.hold(p, m[::-1], 1, (1, 2, 3))

    def test_of_fourteen(self):
        for p in ((1, 2, 3, 4, 5, 6), (2, 2, 2, 5, 5, 5), (1, 1, 1, 1, 6, 6)):
            for m in ((6, 6, 6, 6, 3, 3, 2, 2), (7, 6, 5, 4, 4, 3, 2, 1), (6, 6, 5, 5, 5, 5, 2, 1), (5, 5, 5, 5, 2, 2, 2, 2)):
                self.hold(p, m, 0, (1, 2, 3))

    def test_with_some_in_stacks(self):
        for p in product((1, 3, 4), repeat=3):
            for m in combinations_with_replacement((3, 4, 5), 4):
                # A stack of sheets more is pressed first and the search knows nothing of it.
                calls = [start(0), minus(5), plus(5), minus(5), press(0, 1, 2)]
                calls += [call for call, i in laid(p, m)]
                told = answers(joined([*calls, most(1), most(2), most(3)]))[-5::2]
                self.assertEqual(told, [most_at_once(all_stacks(p, m, k, 0)) for k in (1, 2, 3)], (p, m))
