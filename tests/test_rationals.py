"""Rationals (points 10 and 11)."""

import unittest
from fractions import Fraction

from helpers import ODD_VALUES, Picker, check_call, check_error, r
from roundknown.errors import BadValue
from roundknown.rationals import is_rational, less, minus, over, plus, power, ratio, times


class RationalTests(unittest.TestCase):
    def test_examples(self):
        check_call(self, (-3, 2), ratio, 6, -4)
        check_call(self, (1, 6), minus, (1, 2), (1, 3))
        check_call(self, True, less, (-1, 2), (0, 1))
        check_error(self, BadValue, {"name": "d"}, ratio, 1, 0)

    def test_ratio(self):
        check_call(self, (3, 1), ratio, 3, 1)
        check_call(self, (3, 1), ratio, -3, -1)
        check_call(self, (0, 1), ratio, 0, 7)
        check_call(self, (0, 1), ratio, 0, -7)
        check_call(self, (-2, 3), ratio, -4, 6)
        check_call(self, (2, 3), ratio, -4, -6)
        check_call(self, (10 ** 500, 3), ratio, 2 * 10 ** 500, 6)
        check_error(self, BadValue, {"name": "d"}, ratio, 0, 0)

    def test_zero(self):
        check_call(self, (0, 1), plus, (1, 2), (-1, 2))
        check_call(self, (0, 1), minus, (1, 2), (1, 2))
        check_call(self, (0, 1), times, (0, 1), (-5, 3))
        check_call(self, (0, 1), over, (0, 1), (-5, 3))
        check_error(self, BadValue, {"name": "b"}, over, (1, 2), (0, 1))
        check_error(self, BadValue, {"name": "b"}, over, (0, 1), (0, 1))

    def test_signs_of_quotients(self):
        check_call(self, (-3, 4), over, (1, 2), (-2, 3))
        check_call(self, (3, 4), over, (-1, 2), (-2, 3))

    def test_power(self):
        check_call(self, (1, 1), power, (0, 1), 0)
        check_call(self, (1, 1), power, (-7, 3), 0)
        check_call(self, (0, 1), power, (0, 1), 5)
        check_call(self, (-7, 3), power, (-7, 3), 1)
        check_call(self, (-8, 27), power, (-2, 3), 3)
        check_call(self, (16, 81), power, (-2, 3), 4)
        check_call(self, (2 ** 1000, 3 ** 1000), power, (2, 3), 1000)
        check_call(self, (-1, 1), power, (-1, 1), 10 ** 40 + 1)
        check_call(self, (1, 1), power, (1, 1), 10 ** 40)
        for exponent in range(12):
            self.assertEqual(power((-5, 7), exponent), r((-5) ** exponent, 7 ** exponent))

    def test_less(self):
        check_call(self, False, less, (1, 2), (1, 2))
        check_call(self, True, less, (1, 3), (1, 2))
        check_call(self, False, less, (1, 2), (1, 3))
        check_call(self, True, less, (-1, 2), (-1, 3))
        check_call(self, False, less, (0, 1), (-1, 10 ** 50))

    def test_against_fractions(self):
        picker = Picker(1)
        for _ in range(300):
            a, b = picker.rational(20, 12), picker.rational(20, 12)
            left, right = Fraction(*a), Fraction(*b)
            pairs = [(plus, left + right), (minus, left - right), (times, left * right)]
            if right != 0:
                pairs.append((over, left / right))
            for call, expected in pairs:
                result = call(a, b)
                self.assertEqual(result, (expected.numerator, expected.denominator))
                self.assertTrue(is_rational(result))
            self.assertIs(less(a, b), left < right)

    def test_is_rational(self):
        for good in [(0, 1), (1, 1), (-3, 2), (10 ** 500, 3), (1, 10 ** 500)]:
            check_call(self, True, is_rational, good)
        for bad in [(0, 2), (2, 4), (-2, 4), (1, 0), (0, 0), (1, -1), (1, -2), (1, 1, 1), (1,), [1, 1]]:
            check_call(self, False, is_rational, bad)
        for bad in [(True, 1), (1, True), (False, 1), (1.0, 1), (1, 1.0), ("1", 1), (1, None), ((1, 1), 1)]:
            check_call(self, False, is_rational, bad)
        for bad in ODD_VALUES:
            self.assertIs(is_rational(bad), False)


if __name__ == "__main__":
    unittest.main()
