"""What several tests need: short ways to write values, and slow oracles with Python's fractions."""

import copy
from fractions import Fraction

from roundknown.errors import RoundError
from roundknown.programs import Program

# Values that are no rational, no polynomial, no map, no form and no tuple of such.
ODD_VALUES = [
    None, True, False, 0, 1, -3, "", "map", b"ab", (), [], {}, (1,), (1, 2, 3), [1, 2], (True, 1), (1, True),
    ("1", 2), (1, "2"), ((),), ([],), ((1, 2),), (((1, 2),),), ((((1, 2),),),), (None, None), ((), None),
    (None, ()), ([], ()), ((), []), 1.5, (1.0, 1), (0.5, 1), {"a": 1}, {1, 2},
]


def plain(x):
    """The value with the names and the body in place of each program, so that copies can be compared."""
    if isinstance(x, Program):
        return ("program", x.names, x.body)
    return tuple([plain(item) for item in x]) if isinstance(x, tuple) else x


def check_error(test, error, attributes, call, *arguments):
    """Check that the call raises exactly this error with these attributes and leaves its arguments alone."""
    before = copy.deepcopy(arguments)
    with test.assertRaises(RoundError) as caught:
        call(*arguments)
    test.assertEqual(plain(arguments), plain(before))
    test.assertIs(caught.exception.__class__, error, (call.__name__, arguments))
    for name, content in attributes.items():
        test.assertEqual(getattr(caught.exception, name), content)
        test.assertIs(type(getattr(caught.exception, name)), type(content))


def check_call(test, expected, call, *arguments):
    """Check a result and its kinds, that the arguments stay, and that a second call returns an equal result."""
    before = copy.deepcopy(arguments)
    result = call(*arguments)
    test.assertEqual(result, expected, (call.__name__, arguments))
    check_kinds(test, result, expected)
    test.assertEqual(plain(arguments), plain(before))
    again = call(*arguments)
    test.assertEqual(again, expected)
    if isinstance(result, list):
        test.assertIsNot(result, again)
        result.append("changed")
        test.assertEqual(call(*arguments), expected)


def check_kinds(test, result, expected):
    """Check that tuples are tuples, lists are lists, and True is not 1."""
    test.assertIs(type(result), type(expected))
    if isinstance(expected, (tuple, list)):
        for item, other in zip(result, expected):
            check_kinds(test, item, other)


def r(n, d=1):
    """The rational n / d."""
    fraction = Fraction(n, d)
    return (fraction.numerator, fraction.denominator)


def p(k, **terms):
    """A polynomial of k variables x, y, z in any writing: p(2, x2y=3, one=(1, 2)) is 3xxy + 1/2."""
    rows = []
    for word, number in terms.items():
        exponents = [0] * k
        rest = "" if word == "one" else word
        while rest:
            letter, rest = rest[0], rest[1:]
            digits = ""
            while rest and rest[0].isdigit():
                digits, rest = digits + rest[0], rest[1:]
            exponents["xyz".index(letter)] += int(digits or "1")
        coefficient = r(*number) if isinstance(number, tuple) else r(number)
        rows.append((coefficient, tuple(exponents)))
    rows.sort(key=lambda row: (sum(row[1]), row[1]), reverse=True)
    return tuple(rows)


def fraction_value(polynomial, numbers):
    """The value of a polynomial at fractions."""
    total = Fraction(0)
    for coefficient, exponents in polynomial:
        piece = Fraction(*coefficient)
        for number, exponent in zip(numbers, exponents):
            piece *= number ** exponent
        total += piece
    return total


def form_value(form, n, numbers=None):
    """The value of a form in round n as a fraction; numbers are a start for a form of polynomials."""
    first, terms = form
    if n < len(first):
        return coefficient_value(first[n], numbers)
    return sum(
        (coefficient_value(c, numbers) * n ** power * Fraction(*base) ** n for base, power, c in terms),
        Fraction(0),
    )


def coefficient_value(coefficient, numbers):
    """The value of a coefficient as a fraction."""
    return Fraction(*coefficient) if numbers is None else fraction_value(coefficient, numbers)


def determinant(rows):
    """The determinant of rows of fractions, by the first row."""
    if not rows:
        return Fraction(1)
    total = Fraction(0)
    for column, entry in enumerate(rows[0]):
        smaller = [row[:column] + row[column + 1:] for row in rows[1:]]
        total += (-1) ** column * entry * determinant(smaller)
    return total


class Picker:
    """Numbers that look random and are the same in every run."""

    def __init__(self, seed):
        self.state = seed

    def number(self, low, high):
        """An integer from low to high."""
        self.state = (self.state * 6364136223846793005 + 1442695040888963407) % 2 ** 64
        return low + (self.state >> 33) % (high - low + 1)

    def rational(self, size=5, bottom=4):
        """A rational of small numbers."""
        return r(self.number(-size, size), self.number(1, bottom))

    def nonzero(self, size=5, bottom=4):
        """A rational of small numbers other than zero."""
        sign = 1 if self.number(0, 1) else -1
        return r(sign * self.number(1, size), self.number(1, bottom))
