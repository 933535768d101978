"""How the tests write lines of calls and hold their answers against what is asked."""

import unittest

from stackedsheets.factory import answers

HUGE = 4294967295


def start(reach):
    return [0, reach]


def plus(wide):
    return [1, wide]


def minus(wide):
    return [2, wide]


def trim(i, wide):
    return [3, i, wide]


def fit(i, j):
    return [4, i, j]


def over(i):
    return [5, i]


def under(j):
    return [6, j]


def order(*sheets):
    return [7, len(sheets), *sheets]


def could(p, m):
    return [8, len(p), *p, len(m), *m]


def need(p, m):
    return [9, len(p), *p, len(m), *m]


def press(*sheets):
    return [10, len(sheets), *sheets]


def take(s):
    return [11, s]


def swap(i, j):
    return [12, i, j]


def most(k):
    return [13, k]


def loose():
    return [14]


def stack(s):
    return [15, s]


def height(s):
    return [16, s]


def sheet(i):
    return [17, i]


def check(*sheets):
    return [18, len(sheets), *sheets]


def state():
    return [19]


def joined(calls):
    return [number for call in calls for number in call]


class LineTest(unittest.TestCase):
    def check(self, *pairs):
        """Each pair is a call and the numbers answered to it: one, or a list."""
        calls = joined([call for call, told in pairs])
        expected = []
        for call, told in pairs:
            numbers = told if isinstance(told, list) else [told]
            expected += [len(numbers), *numbers]
        answered = answers(calls)
        self.assertEqual(answered, expected)
        self.assertEqual({type(number) for number in answered}, {int})
