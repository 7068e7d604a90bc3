"""Matrices, characteristic polynomials and rational zeros (points 23 to 25 and 30)."""

import unittest
from fractions import Fraction

from helpers import ODD_VALUES, Picker, check_call, check_error, determinant, r
from roundknown.errors import BadValue
from roundknown.matrices import characteristic, eigenvalues, is_matrix, rational_zeros

SWAP = (((0, 1), (1, 1)), ((1, 1), (0, 1)))


def rows(*lists):
    """A matrix of integers."""
    return tuple([tuple([(n, 1) for n in row]) for row in lists])


def square(k, entry=(1, 1)):
    return tuple([tuple([entry] * k)] * k)


def expanded(last, zeros):
    """The coefficients of last times the product of t - zero."""
    found = [Fraction(last)]
    for zero in zeros:
        longer = [Fraction(0)] + found
        for place, coefficient in enumerate(found):
            longer[place] -= coefficient * zero
        found = longer
    return tuple([r(c) for c in found])


class MatrixTests(unittest.TestCase):
    def test_is_matrix(self):
        for k in (1, 2, 3, 4):
            check_call(self, True, is_matrix, square(k))
            check_call(self, True, is_matrix, square(k, (-1000, 999)))
            check_call(self, True, is_matrix, square(k, (999, 1000)))
            check_call(self, False, is_matrix, square(k, (1001, 1000)))
            check_call(self, False, is_matrix, square(k, (-1001, 1)))
            check_call(self, False, is_matrix, square(k, (1000, 1001)))
            check_call(self, False, is_matrix, square(k, (2, 4)))
            check_call(self, False, is_matrix, square(k, (True, 1)))
            check_call(self, False, is_matrix, list(square(k)))
            check_call(self, False, is_matrix, tuple([list(row) for row in square(k)]))
            check_call(self, False, is_matrix, square(k)[:-1] + (((1, 1),) * (k - 1),))
            check_call(self, False, is_matrix, square(k)[:-1] + (((1, 1),) * (k + 1),))
            check_call(self, False, is_matrix, square(k) + (((1, 1),) * k,))
        for bad in ODD_VALUES + [square(5), ((),), (1, 1), (((1, 1), (1, 1)),)]:
            check_call(self, bad == (((1, 2),),), is_matrix, bad)

    def test_characteristic(self):
        check_call(self, ((-1, 1), (0, 1), (1, 1)), characteristic, SWAP)
        check_call(self, ((-16, 1), (0, 1), (1, 1)), characteristic, rows((0, 2), (8, 0)))
        check_call(self, ((-1, 2), (1, 1)), characteristic, (((1, 2),),))
        check_call(self, ((0, 1), (1, 1)), characteristic, (((0, 1),),))
        check_call(self, ((-1, 1), (-1, 1), (1, 1)), characteristic, rows((1, 1), (1, 0)))
        identity = rows((1, 0, 0, 0), (0, 1, 0, 0), (0, 0, 1, 0), (0, 0, 0, 1))
        check_call(self, ((1, 1), (-4, 1), (6, 1), (-4, 1), (1, 1)), characteristic, identity)

    def test_characteristic_is_a_determinant(self):
        picker = Picker(5)
        for _ in range(120):
            k = picker.number(1, 4)
            matrix = tuple([tuple([picker.rational(9, 5) for _ in range(k)]) for _ in range(k)])
            found = characteristic(matrix)
            self.assertEqual((len(found), found[-1]), (k + 1, (1, 1)))
            for t in range(k + 1):
                difference = [
                    [Fraction(t if i == j else 0) - Fraction(*matrix[i][j]) for j in range(k)] for i in range(k)
                ]
                total = sum([Fraction(*c) * t ** i for i, c in enumerate(found)])
                self.assertEqual(total, determinant(difference))

    def test_eigenvalues(self):
        check_call(self, ((((-1, 1), 1), ((1, 1), 1)), True), eigenvalues, SWAP)
        check_call(self, ((((-4, 1), 1), ((4, 1), 1)), True), eigenvalues, rows((0, 2), (8, 0)))
        check_call(self, ((), False), eigenvalues, rows((1, 1), (1, 0)))
        check_call(self, ((), False), eigenvalues, rows((0, -1), (1, 0)))
        check_call(self, ((((3, 1), 2),), True), eigenvalues, rows((3, 1), (0, 3)))
        check_call(self, ((((0, 1), 4),), True), eigenvalues, square(4, (0, 1)))
        check_call(self, ((((0, 1), 3), ((4, 1), 1)), True), eigenvalues, square(4))
        check_call(self, ((((2, 1), 1),), False), eigenvalues, rows((2, 0, 0), (0, 0, 2), (0, 1, 0)))
        check_call(self, ((((1, 2), 1), ((2, 3), 1)), True), eigenvalues, (((1, 2), (5, 1)), ((0, 1), (2, 3))))
        check_call(self, ((((-1, 1), 2), ((2, 1), 1)), True), eigenvalues, rows((0, 1, 1), (1, 0, 1), (1, 1, 0)))

    def test_long_coefficients_of_a_matrix(self):
        matrix = tuple([
            tuple([r(1000 - 7 * i - j, 999 - 13 * i - 3 * j) for j in range(4)]) for i in range(4)
        ])
        self.assertTrue(is_matrix(matrix))
        found = characteristic(matrix)
        self.assertGreater(len(str(found[0][1])), 40)
        check_call(self, ((), False), eigenvalues, matrix)
        corner = tuple([
            tuple([matrix[i][j] if j > i else r(1, 991 + i) if i == j else (0, 1) for j in range(4)])
            for i in range(4)
        ])
        zeros = tuple([((1, 994 - i), 1) for i in range(4)])
        check_call(self, (zeros, True), eigenvalues, corner)

    def test_matrix_errors(self):
        for call in (characteristic, eigenvalues):
            for bad in [None, (), list(SWAP), square(5), square(2, (1001, 1)), rows((1, 2)), (((True, 1),),)]:
                check_error(self, BadValue, {"name": "matrix"}, call, bad)


class ZeroTests(unittest.TestCase):
    def test_examples(self):
        check_call(self, (((1, 2), 2),), rational_zeros, ((1, 1), (-4, 1), (5, 1), (-4, 1), (4, 1)))

    def test_constants(self):
        for constant in [(1, 1), (-7, 3), (10 ** 40 - 1, 1)]:
            check_call(self, (), rational_zeros, (constant,))

    def test_lines(self):
        check_call(self, (((0, 1), 1),), rational_zeros, ((0, 1), (1, 1)))
        check_call(self, (((3, 2), 1),), rational_zeros, ((3, 1), (-2, 1)))
        check_call(self, (((-3, 2), 1),), rational_zeros, ((1, 2), (1, 3)))

    def test_no_zeros(self):
        check_call(self, (), rational_zeros, ((-2, 1), (0, 1), (1, 1)))
        check_call(self, (), rational_zeros, ((1, 1), (0, 1), (1, 1)))
        check_call(self, (), rational_zeros, ((2, 1), (0, 1), (-3, 1), (0, 1), (1, 3)))
        check_call(self, (((0, 1), 2),), rational_zeros, ((0, 1), (0, 1), (-2, 1), (0, 1), (1, 1)))

    def test_multiple_zeros(self):
        check_call(self, (((0, 1), 4),), rational_zeros, ((0, 1),) * 4 + ((-5, 1),))
        check_call(self, (((0, 1), 3), ((5, 1), 1)), rational_zeros, ((0, 1),) * 3 + ((-5, 1), (1, 1)))
        check_call(self, (((2, 3), 4),), rational_zeros, expanded(7, [Fraction(2, 3)] * 4))
        two = expanded(Fraction(-1, 9), [Fraction(5, 7), Fraction(5, 7), Fraction(-5, 7), Fraction(-5, 7)])
        check_call(self, (((-5, 7), 2), ((5, 7), 2)), rational_zeros, two)
        near = expanded(1, [0, 1, 2, 3])
        check_call(self, (((0, 1), 1), ((1, 1), 1), ((2, 1), 1), ((3, 1), 1)), rational_zeros, near)

    def test_against_products(self):
        picker = Picker(6)
        for _ in range(300):
            zeros = [Fraction(*picker.rational(6, 3)) for _ in range(picker.number(0, 4))]
            expected = tuple([(r(zero), zeros.count(zero)) for zero in sorted(set(zeros))])
            last = Fraction(*picker.nonzero(20, 9))
            self.assertEqual(rational_zeros(expanded(last, zeros)), expected)
            if len(zeros) <= 2:
                # The product with t * t - t + 5, which has no zeros.
                base = [Fraction(*c) for c in expanded(last, zeros)]
                longer = [Fraction(0)] * (len(base) + 2)
                for place, coefficient in enumerate(base):
                    for more, factor in enumerate((5, -1, 1)):
                        longer[place + more] += coefficient * factor
                self.assertEqual(rational_zeros(tuple([r(c) for c in longer])), expected)

    def test_long_coefficients(self):
        many = 10 ** 40 - 1
        check_call(self, (((-1, 1), 1), ((1, 1), 2)), rational_zeros, ((many, 1), (-many, 1), (-many, 1), (many, 1)))
        check_call(self, (((many, 1), 1),), rational_zeros, ((-many, 1), (1, 1)))
        check_call(self, (((1, many), 1),), rational_zeros, ((-1, 1), (many, 1)))
        check_call(self, ((r(-many, many - 1), 1),), rational_zeros, ((many, 1), (many - 1, 1)))
        zeros = [Fraction(10 ** 9 + 7, 10 ** 10 - 33), Fraction(10 ** 9 + 9, 10 ** 10 - 33)]
        found = expanded((10 ** 10 - 33) ** 2, zeros * 2)
        self.assertEqual(max([len(str(abs(n))) for n, d in found]), 37)
        check_call(self, ((r(zeros[0]), 2), (r(zeros[1]), 2)), rational_zeros, found)
        primes = [10 ** 39 + 3, 10 ** 39 + 7, 10 ** 39 + 9, 10 ** 39 + 13, 10 ** 39 + 21]
        parts = tuple([r(10 ** 40 - 1 - n, q) for n, q in enumerate(primes)])
        check_call(self, (), rational_zeros, parts)
        with_zero = ((0, 1),) + parts[:4]
        check_call(self, (((0, 1), 1),), rational_zeros, with_zero)

    def test_errors(self):
        bad_values = [
            None, [], (), [(1, 1)], ((0, 1),), ((1, 1), (0, 1)), ((1, 1),) * 6, ((2, 4), (1, 1)), ((True, 1), (1, 1)),
            ((10 ** 40, 1), (1, 1)), ((1, 1), (-10 ** 40, 1)), ((1, 10 ** 40), (1, 1)), (1, 2), ((1, 1), None),
            ((1, 1), [1, 1]), "11", 5,
        ]
        for bad in bad_values:
            check_error(self, BadValue, {"name": "coefficients"}, rational_zeros, bad)


if __name__ == "__main__":
    unittest.main()
