"""Promise 2: order."""

from itertools import permutations, product

from stackedsheets.factory import answers
from tests.lines import HUGE, LineTest, joined, minus, order, plus, press, stack, start, trim


def laid(signs_and_widths):
    lay = {'+': plus, '-': minus}
    return [lay[sign](wide) for sign, wide in signs_and_widths]


def is_stack(sheets, reach):
    if len(sheets) < 3 or len(sheets) % 2 == 0:
        return False
    for place, (sign, wide) in enumerate(sheets):
        if sign != '-+'[place % 2]:
            return False
        if sign == '+':
            if min(sheets[place - 1][1], sheets[place + 1][1]) - wide < 2 * reach:
                return False
    return True


def first_of_all_orders(sheets, listed, reach):
    for tried in permutations(listed):
        if is_stack([sheets[i] for i in tried], reach):
            return [len(tried), *tried]
    return [-33]


class OrderTest(LineTest):
    def check_against_all_orders(self, sheets, lists, reach):
        pairs = [(start(reach), 0)]
        pairs += [(call, i) for i, call in enumerate(laid(sheets))]
        for listed in lists:
            pairs.append((order(*listed), first_of_all_orders(sheets, listed, reach)))
        self.check(*pairs)

    def test_three_sheets_just_enough_and_one_too_few(self):
        self.check(
            (start(5), 0), (minus(30), 0), (plus(20), 1), (minus(31), 2), (plus(21), 3), (minus(29), 4),
            (order(0, 1, 2), [3, 0, 1, 2]), (order(1, 2, 0), [3, 2, 1, 0]), (order(2, 0, 1), [3, 2, 1, 0]),
            (order(0, 3, 2), -33), (order(0, 1, 4), -33), (order(2, 4, 1), -33),
        )

    def test_wide_plus_between_the_two_widest(self):
        self.check(
            (start(0), 0), (minus(10), 0), (plus(10), 1), (minus(20), 2), (plus(20), 3), (minus(20), 4),
            (order(0, 1, 2, 3, 4), [5, 0, 1, 2, 3, 4]), (order(2, 3, 4, 1, 0), [5, 2, 3, 4, 1, 0]),
            (order(2, 1, 0, 3, 4), [5, 2, 3, 4, 1, 0]), (trim(4, 19), 20), (order(0, 1, 2, 3, 4), -33),
        )

    def test_first_by_the_place_in_the_list(self):
        self.check(
            (start(0), 0), (minus(9), 0), (minus(9), 1), (minus(9), 2), (plus(9), 3), (plus(9), 4),
            (order(0, 1, 2, 3, 4), [5, 0, 3, 1, 4, 2]), (order(4, 3, 2, 1, 0), [5, 2, 4, 1, 3, 0]),
            (order(1, 4, 0, 3, 2), [5, 1, 4, 0, 3, 2]),
        )

    def test_earlier_choice_that_leads_nowhere(self):
        # On sheet 0 sheet 1 would lie, too, but then the wide plus one lies beside a narrow minus one.
        self.check(
            (start(0), 0), (minus(30), 0), (plus(5), 1), (plus(25), 2), (minus(25), 3), (minus(5), 4),
            (order(0, 1, 2, 3, 4), [5, 0, 2, 3, 1, 4]), (order(3, 1, 4, 0, 2), [5, 3, 2, 0, 1, 4]),
        )

    def test_too_few_or_an_even_number(self):
        self.check(
            (start(0), 0), (minus(9), 0), (plus(1), 1), (minus(9), 2), (plus(1), 3), (minus(9), 4), (plus(1), 5),
            (order(), -33), (order(0), -33), (order(1), -33), (order(0, 1), -33), (order(0, 2), -33),
            (order(0, 1, 2, 3), -33), (order(0, 1, 2, 3, 4, 5), -33), (order(0, 1, 2, 3, 4), [5, 0, 1, 2, 3, 4]),
        )

    def test_signs_that_are_not_in_turn(self):
        self.check(
            (start(0), 0), (minus(9), 0), (plus(1), 1), (minus(9), 2), (plus(1), 3), (minus(9), 4),
            (order(0, 2, 4), -33), (order(1, 0, 3), -33), (order(0, 1, 3), -33),
        )

    def test_seven(self):
        self.check(
            (start(1), 0), *[(minus(12 + i), i) for i in range(4)], *[(plus(10 + i), 4 + i) for i in range(3)],
            (order(0, 1, 2, 3, 4, 5, 6), [7, 0, 4, 1, 5, 2, 6, 3]),
            (order(6, 5, 4, 3, 2, 1, 0), [7, 3, 6, 2, 5, 1, 4, 0]),
            (trim(0, 11), 12), (order(0, 1, 2, 3, 4, 5, 6), -33),
        )

    def test_refused_lists(self):
        self.check(
            (start(0), 0), (order(0), -22), (minus(9), 0), (plus(1), 1), (minus(9), 2),
            (order(0, 1, 3), -22), (order(3), -22), (order(0, 1, 0), -22), (order(2, 2), -22),
            (order(0, 0, 1, 2), -22), (order(0, 1, HUGE), -22), (order(*[HUGE] * 7), -22),
            (order(0, 1, 2), [3, 0, 1, 2]),
        )

    def test_wrong_list_goes_before_no_order(self):
        # None of these could be a stack either.
        self.check((start(0), 0), (plus(9), 0), (order(0, 0), -22), (order(0, 1), -22), (order(1, 1, 0), -22))

    def test_against_all_orders_of_five(self):
        lists = [(0, 1, 2, 3, 4), (4, 3, 2, 1, 0), (2, 4, 0, 1, 3)]
        for signs in ('--+-+', '+-+--'):
            for widths in product((3, 4, 5), repeat=5):
                self.check_against_all_orders(list(zip(signs, widths)), lists, 0)

    def test_against_all_orders_of_seven(self):
        lists = [(6, 0, 1, 5, 4, 2, 3), (1, 2, 3, 4, 5, 6, 0)]
        for spread in (0, 1, 3, 4):
            widths = [7, 8 + spread, 6, 9, 7 + spread, 10, 5 + spread]
            for reach in (0, 1):
                self.check_against_all_orders(list(zip('-+-+-+-', widths)), lists, reach)
                self.check_against_all_orders(list(zip('--+-++-', widths)), lists, reach)

    def test_sheets_that_lie_in_a_stack(self):
        self.check(
            (start(0), 0), (minus(9), 0), (plus(9), 1), (minus(9), 2), (plus(8), 3), (minus(8), 4),
            (press(2, 1, 0), 0), (order(0, 1, 2), [3, 0, 1, 2]), (order(4, 3, 1, 2, 0), [5, 4, 3, 2, 1, 0]),
            (order(0, 1, 4), -33), (stack(0), [3, 2, 1, 0]),
        )

    def test_asking_changes_nothing(self):
        calls = joined([start(0), *laid([('-', 9), ('+', 9), ('-', 9)]), order(2, 1, 0), order(0, 1, 2), order(2, 1, 0)])
        self.assertEqual(answers(calls)[8:], [4, 3, 2, 1, 0, 4, 3, 0, 1, 2, 4, 3, 2, 1, 0])
