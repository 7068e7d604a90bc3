"""Polynomials (points 12 to 15)."""

import unittest
from fractions import Fraction

from helpers import ODD_VALUES, Picker, check_call, fraction_value, p, r
from roundknown.polynomials import add, is_polynomial, multiply, polynomial, put_in, scale, value

ONE = (1, 1)


def some_polynomial(picker, k):
    rows = []
    for _ in range(picker.number(0, 6)):
        rows.append((picker.rational(3, 4), tuple([picker.number(0, 3) for _ in range(k)])))
    return polynomial(k, rows)


class PolynomialTests(unittest.TestCase):
    def test_examples(self):
        rows = [((1, 1), (0, 1)), ((2, 1), (1, 0)), ((1, 2), (0, 1))]
        line = (((2, 1), (1, 0)), ((3, 2), (0, 1)))
        check_call(self, line, polynomial, 2, rows)
        check_call(self, (8, 1), value, line, ((1, 1), (4, 1)))
        square = (((4, 1), (2, 0)), ((6, 1), (1, 1)), ((9, 4), (0, 2)))
        check_call(self, square, multiply, line, line)
        check_call(self, (((2, 1), (2,)),), put_in, 1, line, ((((1, 1), (2,)),), ()))

    def test_terms_that_cancel(self):
        check_call(self, (), polynomial, 1, [((1, 2), (3,)), ((-1, 2), (3,))])
        check_call(self, (), polynomial, 1, [((0, 1), (3,)), ((0, 1), (0,))])
        check_call(self, p(1, x=1), polynomial, 1, [((1, 1), (1,)), ((2, 1), (2,)), ((-2, 1), (2,))])
        check_call(self, (), polynomial, 2, [])
        check_call(self, (), add, p(2, x=1, y=2), p(2, x=-1, y=-2))
        check_call(self, p(2, y=2), add, p(2, x=1), p(2, x=-1, y=2))
        check_call(self, p(2, x2=1, y2=-1), multiply, p(2, x=1, y=1), p(2, x=1, y=-1))

    def test_order_of_terms(self):
        ordered = (
            (ONE, (0, 0, 3)), (ONE, (2, 0, 0)), (ONE, (1, 1, 0)), (ONE, (1, 0, 1)), (ONE, (0, 2, 0)),
            (ONE, (0, 1, 1)), (ONE, (0, 0, 2)), (ONE, (1, 0, 0)), (ONE, (0, 1, 0)), (ONE, (0, 0, 1)),
            (ONE, (0, 0, 0)),
        )
        check_call(self, ordered, polynomial, 3, list(reversed(ordered)))
        check_call(self, True, is_polynomial, 3, ordered)
        for place in range(len(ordered) - 1):
            rows = list(ordered)
            rows[place], rows[place + 1] = rows[place + 1], rows[place]
            check_call(self, False, is_polynomial, 3, tuple(rows))
            check_call(self, ordered, polynomial, 3, rows)
        self.assertEqual(add(ordered[5:], ordered[:5]), ordered)

    def test_no_variables(self):
        seven = (((7, 1), ()),)
        check_call(self, seven, polynomial, 0, [((3, 1), ()), ((4, 1), ())])
        check_call(self, (), polynomial, 0, [((3, 1), ()), ((-3, 1), ())])
        check_call(self, (((49, 1), ()),), multiply, seven, seven)
        check_call(self, (((14, 1), ()),), add, seven, seven)
        check_call(self, (7, 1), value, seven, ())
        check_call(self, (((7, 1), (0, 0)),), put_in, 2, seven, ())
        check_call(self, (((7, 1), ()),), put_in, 0, seven, ())
        check_call(self, (((1, 4), ()),), put_in, 0, p(1, x2=1), ((((1, 2), ()),),))
        check_call(self, True, is_polynomial, 0, seven)
        check_call(self, True, is_polynomial, 0, ())
        check_call(self, False, is_polynomial, 0, (((0, 1), ()),))

    def test_empty(self):
        line = p(2, x=1, one=3)
        check_call(self, line, add, (), line)
        check_call(self, line, add, line, ())
        check_call(self, (), add, (), ())
        check_call(self, (), multiply, (), line)
        check_call(self, (), multiply, line, ())
        check_call(self, (), scale, (), (5, 1))
        check_call(self, (), scale, line, (0, 1))
        check_call(self, (0, 1), value, (), ((1, 1), (2, 1)))
        check_call(self, (), put_in, 2, (), (line, line))

    def test_exponent_zero(self):
        check_call(self, (5, 1), value, p(2, one=5), ((0, 1), (0, 1)))
        check_call(self, (5, 1), value, p(2, x=3, one=5), ((0, 1), (7, 1)))
        check_call(self, p(1, one=5), put_in, 1, p(2, one=5), ((), ()))
        check_call(self, p(1, x=2), put_in, 1, p(2, x3=1, y=2), ((), p(1, x=1)))

    def test_scale(self):
        check_call(self, p(2, x=(-1, 2), one=1), scale, p(2, x=(3, 2), one=-3), (-1, 3))

    def test_put_in(self):
        moved = put_in(2, p(1, x2=1, one=(1, 2)), (p(2, x=1, y=(1, 3)),))
        self.assertEqual(moved, p(2, x2=1, xy=(2, 3), y2=(1, 9), one=(1, 2)))
        check_call(self, (), put_in, 1, p(2, x2=1, y2=-1), (p(1, x=1, one=2), p(1, x=1, one=2)))

    def test_against_fractions(self):
        picker = Picker(2)
        for _ in range(200):
            k, m = picker.number(0, 3), picker.number(0, 3)
            first, second = some_polynomial(picker, k), some_polynomial(picker, k)
            numbers = [picker.rational() for _ in range(k)]
            fractions = [Fraction(*number) for number in numbers]
            left, right = fraction_value(first, fractions), fraction_value(second, fractions)
            found = value(first, tuple(numbers))
            self.assertEqual(found, (left.numerator, left.denominator))
            factor = picker.rational()
            results = [
                (add(first, second), left + right), (multiply(first, second), left * right),
                (scale(first, factor), left * Fraction(*factor)),
            ]
            for result, expected in results:
                self.assertTrue(is_polynomial(k, result))
                self.assertEqual(fraction_value(result, fractions), expected)
            inner = tuple([some_polynomial(picker, m) for _ in range(k)])
            start = [Fraction(*picker.rational()) for _ in range(m)]
            result = put_in(m, first, inner)
            self.assertTrue(is_polynomial(m, result))
            places = [fraction_value(q, start) for q in inner]
            self.assertEqual(fraction_value(result, start), fraction_value(first, places))

    def test_long_fractions(self):
        first = tuple([(r(1, 10 ** 40 + 2 * i + 1), (9 - i, i)) for i in range(10)])
        start = [Fraction(2), Fraction(-3)]
        square = multiply(first, first)
        self.assertTrue(is_polynomial(2, square))
        self.assertEqual(fraction_value(square, start), fraction_value(first, start) ** 2)
        self.assertEqual(len(square), 19)

    def test_is_polynomial(self):
        good = p(2, x2y=3, x=(1, 2), one=-1)
        check_call(self, True, is_polynomial, 2, good)
        check_call(self, True, is_polynomial, 2, ())
        check_call(self, True, is_polynomial, 1, (((10 ** 500, 7), (10 ** 9,)),))
        check_call(self, False, is_polynomial, 1, good)
        check_call(self, False, is_polynomial, 3, good)
        check_call(self, False, is_polynomial, 2, list(good))
        check_call(self, False, is_polynomial, 2, good + good[-1:])
        check_call(self, False, is_polynomial, 2, good[::-1])
        bad_terms = [
            ((0, 1), (1, 0)), ((2, 4), (1, 0)), ((1, 0), (1, 0)), ((1, -1), (1, 0)), ((True, 1), (1, 0)),
            ((1, 1), (True, 0)), ((1, 1), (1, False)), ((1, 1), (-1, 0)), ((1, 1), (1,)), ((1, 1), (1, 0, 0)),
            ((1, 1), [1, 0]), ([1, 1], (1, 0)), ([(1, 1), (1, 0)]), ((1, 1), (1, 0), 0), (1, (1, 0)),
            ((1, 1), ("1", 0)), ((1, 1), (1.0, 0)), ((1, 1),), (), None, 3, ((1, 1), None), ((1, 1), (None, 0)),
        ]
        for term in bad_terms:
            check_call(self, False, is_polynomial, 2, (term,))
            check_call(self, False, is_polynomial, 2, good + (term,))
        for bad in ODD_VALUES:
            if bad != ():
                self.assertIs(is_polynomial(1, bad), False, bad)


if __name__ == "__main__":
    unittest.main()
