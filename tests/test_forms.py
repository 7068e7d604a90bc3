"""Forms of v variables (points 34 to 41, 47 and 48)."""

import unittest
from fractions import Fraction

from helpers import ODD_VALUES, Picker, check_call, check_error, coefficient_value, form_value, p, r
from roundknown.errors import BadValue, TooLarge
from roundknown.forms import add_forms, form_at, is_form, multiply_forms, next_form, scale_form, shift_form
from roundknown.forms import start_form, sum_form
from roundknown.polynomials import polynomial

NOTHING = ((), ())
COUNT = ((), (((1, 1), 1, (1, 1)),))
DOUBLE = ((), (((2, 1), 0, (1, 1)),))
LONG = 10 ** 60 - 1
ONE = (1, 1)


def numeric(*terms):
    """The numeric form of terms (base, power, coefficient) without first values."""
    return ((), terms)


def some_coefficient(picker, v, zero=True):
    if v == 0:
        return picker.rational(4, 3) if zero else picker.nonzero(4, 3)
    rows = [(picker.nonzero(4, 3), tuple([picker.number(0, 2) for _ in range(v)]))]
    for _ in range(picker.number(0, 2)):
        rows.append((picker.rational(4, 3), tuple([picker.number(0, 2) for _ in range(v)])))
    found = polynomial(v, rows)
    return found if found or zero else some_coefficient(picker, v, zero)


def some_form(picker, v, most=4):
    """A form that is made without the program: terms in order, and no first value that is not needed."""
    places = {}
    for _ in range(picker.number(0, most)):
        places[(picker.nonzero(3, 2), picker.number(0, 2))] = some_coefficient(picker, v, False)
    order = sorted(places, key=lambda place: (Fraction(*place[0]), place[1]))
    terms = tuple([(base, power, places[(base, power)]) for base, power in order])
    first = [some_coefficient(picker, v) for _ in range(max(0, picker.number(-3, 3)))]
    form = (tuple(first), terms)
    return form if is_form(v, form) else some_form(picker, v, most)


def some_start(picker, v):
    return [Fraction(*picker.rational()) for _ in range(v)] if v else None


def bases(count):
    """Terms with so many different bases."""
    return tuple([((n + 1, 1), 0, (1, 1)) for n in range(count)])


def many_terms(count):
    """A polynomial of three variables with so many terms."""
    rows = [((1, 1), (a, b, c)) for a in range(4) for b in range(4) for c in range(4)]
    return polynomial(3, rows[:count])


class ExampleTests(unittest.TestCase):
    def test_examples(self):
        check_call(self, numeric((ONE, 1, (-1, 2)), (ONE, 2, (1, 2))), sum_form, 0, COUNT)
        expected = numeric((ONE, 0, (-1, 1)), (ONE, 1, (-1, 1)), ((2, 1), 0, (2, 1)))
        check_call(self, expected, next_form, 0, (2, 1), (1, 1), COUNT)
        expected = (((7, 1),), ((ONE, 0, (-1, 1)), (ONE, 1, (1, 1))))
        check_call(self, expected, next_form, 0, (0, 1), (7, 1), COUNT)
        check_call(self, (1024, 1), form_at, 0, DOUBLE, 10)
        check_call(self, (0, 1), form_at, 0, COUNT, 0)
        check_call(self, (400, 1), form_at, 0, COUNT, 400)


class IsFormTests(unittest.TestCase):
    def test_variables(self):
        for bad in [-1, 4, True, False, None, "0", 1.0, (1,)]:
            check_error(self, BadValue, {"name": "variables"}, is_form, bad, NOTHING)
            check_error(self, BadValue, {"name": "variables"}, is_form, bad, None)
        for v in range(4):
            check_call(self, True, is_form, v, NOTHING)
            for bad in ODD_VALUES:
                if bad != ((), ()):
                    self.assertIs(is_form(v, bad), False)
        check_call(self, True, is_form, 0, COUNT)
        check_call(self, False, is_form, 1, COUNT)
        form = ((), ((ONE, 1, p(2, x=1)),))
        for v in range(4):
            check_call(self, v == 2, is_form, v, form)

    def test_shape(self):
        good = (((3, 1), (0, 1)), ((ONE, 0, (1, 2)), (ONE, 2, (-1, 1)), ((2, 1), 0, (5, 1))))
        check_call(self, True, is_form, 0, good)
        check_call(self, False, is_form, 0, list(good))
        check_call(self, False, is_form, 0, good + ((),))
        check_call(self, False, is_form, 0, (list(good[0]), good[1]))
        check_call(self, False, is_form, 0, (good[0], list(good[1])))
        check_call(self, False, is_form, 0, (good[0], good[1][::-1]))
        check_call(self, False, is_form, 0, (good[0], (good[1][1], good[1][0], good[1][2])))
        check_call(self, False, is_form, 0, (good[0], good[1] + good[1][2:]))
        check_call(self, False, is_form, 0, (good[0], tuple([list(term) for term in good[1]])))
        check_call(self, False, is_form, 0, (good[0], tuple([term + (0,) for term in good[1]])))

    def test_terms(self):
        bad_terms = [
            ((0, 1), 0, (1, 1)), ((2, 4), 0, (1, 1)), ((1, 0), 0, (1, 1)), (ONE, -1, (1, 1)), (ONE, True, (1, 1)),
            (ONE, 0, (0, 1)), (ONE, 0, (2, 2)), (ONE, 0, True), (ONE, 0, 1), (1, 0, (1, 1)), (ONE, "0", (1, 1)),
            (ONE, 0), (ONE, (0,), (1, 1)), ([1, 1], 0, (1, 1)), (ONE, 0, [1, 1]), None, (ONE, 0, ()),
            ((True, 1), 0, (1, 1)), (ONE, 0, (1, True)), (ONE, 1.0, (1, 1)),
        ]
        for term in bad_terms:
            check_call(self, False, is_form, 0, ((), (term,)))
        check_call(self, False, is_form, 1, ((), ((ONE, 0, ()),)))
        check_call(self, False, is_form, 1, ((), ((ONE, 0, (1, 1)),)))
        check_call(self, False, is_form, 1, (((1, 1),), ()))
        check_call(self, False, is_form, 0, ((p(1, x=1),), ()))
        for item in [None, True, 0, (2, 2), (1, 0), [1, 1], ()]:
            check_call(self, False, is_form, 0, ((item,), ()))
        check_call(self, False, is_form, 1, ((p(2, x=1),), ()))
        check_call(self, False, is_form, 1, ((p(1, x=1, one=1)[::-1],), ()))

    def test_order_is_that_of_the_numbers(self):
        ordered = [(-7, 2), (-3, 1), (-1, 2), (-1, 3), (1, 3), (1, 2), (2, 3), (1, 1), (10, 1)]
        terms = tuple([(base, power, (1, 1)) for base in ordered for power in (0, 1)])
        check_call(self, True, is_form, 0, ((), terms))
        for place in range(len(terms) - 1):
            swapped = terms[:place] + (terms[place + 1], terms[place]) + terms[place + 2:]
            check_call(self, False, is_form, 0, ((), swapped))
            total = NOTHING
            for term in swapped:
                total = add_forms(0, total, ((), (term,)))
            self.assertEqual(total, ((), terms))

    def test_first_is_short(self):
        check_call(self, False, is_form, 0, (((0, 1),), ()))
        check_call(self, True, is_form, 0, (((1, 1),), ()))
        check_call(self, True, is_form, 0, (((0, 1), (1, 1)), ()))
        check_call(self, False, is_form, 0, (((1, 1), (0, 1)), ()))
        check_call(self, False, is_form, 0, (((5, 1), (2, 1)), DOUBLE[1]))
        check_call(self, True, is_form, 0, (((5, 1), (1, 1)), DOUBLE[1]))
        check_call(self, True, is_form, 0, (((1, 1), (1, 1)), DOUBLE[1]))
        # In round 0 the term n to the power 0 counts, and n to the power 1 does not.
        check_call(self, False, is_form, 0, (((1, 1),), DOUBLE[1]))
        check_call(self, False, is_form, 0, (((0, 1),), COUNT[1]))
        check_call(self, True, is_form, 0, (((1, 1),), COUNT[1]))
        check_call(self, False, is_form, 1, ((p(1, x=1),), ((ONE, 0, p(1, x=1)),)))
        check_call(self, True, is_form, 1, ((p(1, x=2),), ((ONE, 0, p(1, x=1)),)))

    def test_limits(self):
        for count in (8, 9):
            first = ((0, 1),) * (count - 1) + ((1, 1),)
            check_call(self, count == 8, is_form, 0, (first, ()))
            check_call(self, count == 8, is_form, 1, (((),) * (count - 1) + (p(1, x=1),), ()))
        for count in (30, 31):
            check_call(self, count == 30, is_form, 0, ((), bases(count)))
        for power in (8, 9):
            check_call(self, power == 8, is_form, 0, numeric((ONE, power, (1, 1))))
        for number in (LONG, LONG + 1):
            good = number == LONG
            for rational in [(number, 1), (-number, 1), (1, number)]:
                check_call(self, good, is_form, 0, numeric((rational, 0, (1, 1))))
                check_call(self, good, is_form, 0, numeric((ONE, 0, rational)))
                check_call(self, good, is_form, 0, ((rational,), ()))
                check_call(self, good, is_form, 2, ((), ((ONE, 0, ((rational, (1, 0)),)),)))
                check_call(self, good, is_form, 2, ((((rational, (1, 0)),),), ()))
        for count in (40, 41):
            check_call(self, count == 40, is_form, 3, ((), ((ONE, 0, many_terms(count)),)))
            check_call(self, count == 40, is_form, 3, ((many_terms(count),), ()))
        for exponent in (8, 9):
            for exponents in [(exponent, 0), (0, exponent), (8, exponent)]:
                check_call(self, exponent == 8, is_form, 2, ((), ((ONE, 0, ((ONE, exponents),)),)))
                check_call(self, exponent == 8, is_form, 2, ((((ONE, exponents),),), ()))


class OperationTests(unittest.TestCase):
    def check_values(self, v, result, expected, numbers, rounds=12):
        self.assertTrue(is_form(v, result))
        for n in range(rounds):
            self.assertEqual(form_value(result, n, numbers), expected(n))

    def test_against_values(self):
        picker = Picker(9)
        for trial in range(160):
            v = trial % 4
            numbers = some_start(picker, v)
            first, second = some_form(picker, v), some_form(picker, v)
            c = some_coefficient(picker, v)
            factor = picker.rational(3, 2)
            rounds = picker.number(0, 6)

            def at(form, n):
                return form_value(form, n, numbers)

            worth = coefficient_value(c, numbers)
            self.check_values(v, add_forms(v, first, second), lambda n: at(first, n) + at(second, n), numbers)
            self.check_values(v, multiply_forms(v, first, second), lambda n: at(first, n) * at(second, n), numbers)
            self.check_values(v, scale_form(v, first, c), lambda n: at(first, n) * worth, numbers)
            self.check_values(v, shift_form(v, first, rounds), lambda n: at(first, n + rounds), numbers)
            totals, steps = [Fraction(0)], [worth]
            for n in range(12):
                totals.append(totals[-1] + at(first, n))
                steps.append(steps[-1] * Fraction(*factor) + at(first, n))
            self.check_values(v, sum_form(v, first), lambda n: totals[n], numbers)
            self.check_values(v, next_form(v, factor, c, first), lambda n: steps[n], numbers)
            for n in (0, 1, 5):
                self.assertEqual(coefficient_value(form_at(v, first, n), numbers), at(first, n))
            if v:
                start = tuple([r(number) for number in numbers])
                self.check_values(0, start_form(start, first), lambda n: at(first, n), None)

    def test_two_ways_to_a_form(self):
        picker = Picker(10)
        spread = 0
        for trial in range(120):
            v = trial % 4
            a, b, c = some_form(picker, v, 3), some_form(picker, v, 3), some_form(picker, v, 3)
            minus_one = (-1, 1) if v == 0 else (((-1, 1), (0,) * v),)
            self.assertEqual(add_forms(v, a, b), add_forms(v, b, a))
            self.assertEqual(add_forms(v, add_forms(v, a, b), scale_form(v, b, minus_one)), a)
            self.assertEqual(add_forms(v, a, scale_form(v, a, minus_one)), NOTHING)
            try:
                both = multiply_forms(v, add_forms(v, a, b), c)
                self.assertEqual(both, add_forms(v, multiply_forms(v, a, c), multiply_forms(v, b, c)))
                self.assertEqual(both, multiply_forms(v, c, add_forms(v, b, a)))
                spread += 1
            except TooLarge:
                pass
            self.assertEqual(shift_form(v, shift_form(v, a, 2), 3), shift_form(v, a, 5))
            self.assertEqual(shift_form(v, a, 0), a)
            total = sum_form(v, a)
            self.assertEqual(shift_form(v, total, 1), add_forms(v, total, a))
            factor, start = picker.rational(3, 2), some_coefficient(picker, v)
            following = next_form(v, factor, start, a)
            scaled = scale_form(v, following, factor if v == 0 else polynomial(v, [(factor, (0,) * v)]))
            self.assertEqual(shift_form(v, following, 1), add_forms(v, scaled, a))
            self.assertEqual(form_at(v, following, 0), start)
        self.assertGreater(spread, 80)

    def test_first_values_go_away(self):
        late = (((5, 1), (7, 1)), DOUBLE[1])
        other = (((-4, 1), (-5, 1)), ())
        check_call(self, DOUBLE, add_forms, 0, late, other)
        check_call(self, (((5, 1),), DOUBLE[1]), add_forms, 0, late, (((0, 1), (-5, 1)), ()))
        check_call(self, (((7, 1),), (((2, 1), 0, (2, 1)),)), shift_form, 0, late, 1)
        check_call(self, numeric(((2, 1), 0, (4, 1))), shift_form, 0, late, 2)
        check_call(self, NOTHING, multiply_forms, 0, (((0, 1), (3, 1)), ()), (((3, 1),), ()))
        check_call(self, NOTHING, scale_form, 0, late, (0, 1))
        check_call(self, NOTHING, scale_form, 2, ((p(2, x=1),), ((ONE, 0, p(2, y=1)),)), ())
        check_call(self, NOTHING, sum_form, 0, NOTHING)

    def test_factor_zero(self):
        check_call(self, (((3, 1),), ()), next_form, 0, (0, 1), (3, 1), NOTHING)
        check_call(self, NOTHING, next_form, 0, (0, 1), (0, 1), NOTHING)
        # The start is the value that the terms have in round 0, so no first value is needed.
        check_call(self, numeric(((2, 1), 0, (1, 2))), next_form, 0, (0, 1), (1, 2), DOUBLE)
        check_call(self, (((1, 1),), (((2, 1), 0, (1, 2)),)), next_form, 0, (0, 1), (1, 1), DOUBLE)
        check_call(self, (((1, 1), (9, 1)), ()), next_form, 0, (0, 1), (1, 1), (((9, 1),), ()))
        check_call(self, ((p(1, x=1),), ()), next_form, 1, (0, 1), p(1, x=1), NOTHING)

    def test_resonance(self):
        check_call(self, numeric(((2, 1), 0, (3, 1)), ((2, 1), 1, (1, 2))), next_form, 0, (2, 1), (3, 1), DOUBLE)
        expected = numeric((ONE, 0, (3, 1)), (ONE, 1, (-1, 2)), (ONE, 2, (1, 2)))
        check_call(self, expected, next_form, 0, ONE, (3, 1), COUNT)
        check_call(self, numeric(((-2, 1), 0, (3, 4)), ((2, 1), 0, (1, 4))), next_form, 0, (-2, 1), ONE, DOUBLE)

    def test_bases_of_products(self):
        half = numeric(((-1, 2), 1, (3, 1)))
        check_call(self, numeric(((-1, 1), 1, (3, 1))), multiply_forms, 0, half, DOUBLE)
        check_call(self, numeric(((1, 4), 2, (9, 1))), multiply_forms, 0, half, half)

    def test_started(self):
        form = ((p(1, x=1), p(1, one=2)), ((ONE, 0, p(1, x=1, one=-1)), ((2, 1), 0, p(1, x2=1))))
        check_call(self, numeric(((2, 1), 0, (1, 1))), start_form, ((1, 1),), form)
        check_call(self, (((0, 1), (2, 1)), ((ONE, 0, (-1, 1)),)), start_form, ((0, 1),), form)
        check_call(self, NOTHING, start_form, ((0, 1),), ((), ((ONE, 3, p(1, x=1)),)))
        check_call(self, numeric((ONE, 0, (1, 1))), start_form, ((0, 1),), ((), ((ONE, 0, p(1, one=1)),)))
        check_call(self, numeric((ONE, 0, (1, 1))), start_form, ((2, 1), (-1, 1)), ((), ((ONE, 0, p(2, x=1, y=1)),)))
        form = ((), ((ONE, 0, p(3, xyz=1)),))
        check_call(self, numeric((ONE, 0, (6, 1))), start_form, ((1, 1), (2, 1), (3, 1)), form)


class SizeTests(unittest.TestCase):
    def check_too_large(self, call, *arguments):
        check_error(self, TooLarge, {"what": "form"}, call, *arguments)

    def test_first(self):
        seven = (((0, 1),) * 6 + ((1, 1),), ())
        eight = next_form(0, (0, 1), (5, 1), seven)
        self.assertEqual(eight, (((5, 1),) + ((0, 1),) * 6 + ((1, 1),), ()))
        self.check_too_large(next_form, 0, (0, 1), (5, 1), eight)
        self.check_too_large(next_form, 0, (0, 1), (0, 1), eight)
        check_call(self, (((0, 1),) * 8, numeric((ONE, 0, (1, 1)))[1]), sum_form, 0, (((0, 1),) * 7 + ((1, 1),), ()))

    def test_terms(self):
        thirty = ((), bases(30))
        check_call(self, thirty, add_forms, 0, ((), bases(29)), ((), (((30, 1), 0, (1, 1)),)))
        self.check_too_large(add_forms, 0, thirty, ((), (((31, 1), 0, (1, 1)),)))
        check_call(self, ((), bases(29)), add_forms, 0, thirty, ((), (((30, 1), 0, (-1, 1)),)))
        self.check_too_large(next_form, 0, (31, 1), (0, 1), thirty)
        six = tuple([((n, 1), 0, (1, 1)) for n in (2, 3, 5, 7, 11, 13)])
        five = tuple([((n, 1), 0, (1, 1)) for n in (17, 19, 23, 29, 31)])
        self.assertEqual(len(multiply_forms(0, ((), six), ((), five))[1]), 30)
        self.check_too_large(multiply_forms, 0, ((), six), ((), five + (((37, 1), 0, (1, 1)),)))

    def test_powers(self):
        four, five = numeric((ONE, 4, (1, 1))), numeric((ONE, 5, (1, 1)))
        check_call(self, numeric((ONE, 8, (1, 1))), multiply_forms, 0, four, four)
        self.check_too_large(multiply_forms, 0, four, five)
        self.assertEqual(sum_form(0, numeric((ONE, 7, (1, 1))))[1][-1], (ONE, 8, (1, 8)))
        self.check_too_large(sum_form, 0, numeric((ONE, 8, (1, 1))))
        self.assertEqual(next_form(0, (2, 1), (0, 1), numeric((ONE, 8, (1, 1))))[1][8][1], 8)

    def test_digits_of_bases(self):
        high, low = numeric(((10 ** 30, 1), 0, (1, 1))), numeric(((10 ** 30 - 1, 1), 0, (1, 1)))
        check_call(self, numeric(((10 ** 60 - 10 ** 30, 1), 0, (1, 1))), multiply_forms, 0, high, low)
        self.check_too_large(multiply_forms, 0, high, high)
        high, low = numeric(((-1, 10 ** 30), 0, (1, 1))), numeric(((1, 10 ** 29), 0, (1, 1)))
        check_call(self, numeric(((-1, 10 ** 59), 0, (1, 1))), multiply_forms, 0, high, low)
        self.check_too_large(multiply_forms, 0, high, high)
        self.assertTrue(is_form(0, next_form(0, (LONG, 1), (1, 1), NOTHING)))

    def test_digits_of_coefficients(self):
        big = numeric((ONE, 0, (LONG, 1)))
        one = numeric((ONE, 0, (1, 1)))
        check_call(self, numeric((ONE, 0, (LONG - 1, 1))), add_forms, 0, big, numeric((ONE, 0, (-1, 1))))
        self.check_too_large(add_forms, 0, big, one)
        self.check_too_large(add_forms, 0, numeric((ONE, 0, (-LONG, 1))), numeric((ONE, 0, (-1, 1))))
        half = numeric((ONE, 0, (10 ** 30, 1)))
        check_call(self, numeric((ONE, 0, (10 ** 59, 1))), scale_form, 0, half, (10 ** 29, 1))
        self.check_too_large(scale_form, 0, numeric((ONE, 0, (10 ** 30, 1))), (10 ** 30, 1))
        self.check_too_large(scale_form, 0, numeric((ONE, 0, (1, 10 ** 30))), (1, 10 ** 30))
        self.check_too_large(scale_form, 0, (((10 ** 30, 1),), ()), (10 ** 30, 1))
        self.check_too_large(multiply_forms, 0, (((1, 10 ** 30),), ()), (((1, 10 ** 30),), ()))
        # In the sum the long first value meets the terms, so the form is short.
        check_call(self, big, add_forms, 0, (((1, 1),), big[1]), (((LONG - 1, 1),), ()))
        x = ((((10 ** 30, 1), (1,)),),)
        check_call(self, (((((10 ** 59, 1), (1,)),),), ()), scale_form, 1, (x, ()), (((10 ** 29, 1), (0,)),))
        self.check_too_large(scale_form, 1, (x, ()), (((10 ** 30, 1), (0,)),))

    def test_shift(self):
        form = numeric(((10 ** 3, 1), 0, (1, 1)))
        check_call(self, numeric(((10 ** 3, 1), 0, (10 ** 57, 1))), shift_form, 0, form, 19)
        self.check_too_large(shift_form, 0, form, 20)

    def test_polynomials(self):
        terms = many_terms(40)
        more = p(3, x3y3z3=1)
        self.assertNotIn(more[0], terms)
        forty = ((), ((ONE, 0, terms),))
        check_call(self, forty, add_forms, 3, ((), ((ONE, 0, terms[1:]),)), ((), ((ONE, 0, terms[:1]),)))
        self.check_too_large(add_forms, 3, forty, ((), ((ONE, 0, more),)))
        check_call(self, ((terms,), ()), add_forms, 3, ((terms[1:],), ()), ((terms[:1],), ()))
        self.check_too_large(add_forms, 3, ((terms,), ()), ((more,), ()))
        check_call(self, ((), ((ONE, 0, p(2, x8=1)),)), scale_form, 2, ((), ((ONE, 0, p(2, x4=1)),)), p(2, x4=1))
        self.check_too_large(scale_form, 2, ((), ((ONE, 0, p(2, x4=1)),)), p(2, x5=1))
        self.check_too_large(multiply_forms, 2, ((), ((ONE, 0, p(2, y4=1)),)), ((), ((ONE, 0, p(2, x8y5=1)),)))

    def test_only_the_result_counts(self):
        x5 = ((p(1, x=1), p(1, x5=1)), ())
        y5 = ((p(1, x5=1),), ())
        check_call(self, ((p(1, x6=1),), ()), multiply_forms, 1, x5, y5)
        big = numeric(((10 ** 40, 1), 0, (1, 1)))
        self.check_too_large(multiply_forms, 0, big, big)
        check_call(self, numeric((ONE, 0, (1, 1))), multiply_forms, 0, big, numeric(((1, 10 ** 40), 0, (1, 1))))

    def test_started(self):
        form = ((), ((ONE, 0, p(1, x2=1)),))
        check_call(self, numeric((ONE, 0, (10 ** 58, 1))), start_form, ((10 ** 29, 1),), form)
        self.check_too_large(start_form, ((10 ** 30, 1),), form)
        self.check_too_large(start_form, ((1, 10 ** 30),), form)

    def test_form_at(self):
        digits = numeric(((10, 1), 0, (1, 1)))
        check_call(self, (10 ** 399, 1), form_at, 0, digits, 399)
        check_error(self, TooLarge, {"what": "numbers"}, form_at, 0, digits, 400)
        check_error(self, TooLarge, {"what": "numbers"}, form_at, 0, numeric(((1, 10), 0, (-1, 1))), 400)
        check_error(self, TooLarge, {"what": "numbers"}, form_at, 0, numeric(((-10, 1), 0, (1, 1))), 400)
        nines = numeric((ONE, 0, (-1, 1)), ((10, 1), 0, (1, 1)))
        check_call(self, (10 ** 400 - 1, 1), form_at, 0, nines, 400)
        form = ((), (((10, 1), 0, p(2, x=1, y=(1, 3))),))
        check_call(self, p(2, x=10 ** 399, y=(10 ** 399, 3)), form_at, 2, form, 399)
        check_error(self, TooLarge, {"what": "numbers"}, form_at, 2, form, 400)
        form = ((), (((1, 10), 0, p(2, x=1, y=1)),))
        check_call(self, p(2, x=(1, 10 ** 399), y=(1, 10 ** 399)), form_at, 2, form, 399)
        check_error(self, TooLarge, {"what": "numbers"}, form_at, 2, form, 400)
        check_call(self, (), form_at, 2, ((), ((ONE, 1, p(2, x=1)),)), 0)
        check_call(self, p(1, x=2), form_at, 1, ((p(1, x=2),), ()), 0)
        check_call(self, (), form_at, 1, ((p(1, x=2),), ()), 400)


class WrongArgumentTests(unittest.TestCase):
    BAD_FORMS = [
        None, (), [], list(COUNT), ((), [((1, 1), 1, (1, 1))]), (((0, 1),), ()), ((), ((ONE, 9, ONE),)),
        ((), ((ONE, True, ONE),)), ((), ((ONE, 0, (0, 1)),)), ((), bases(31)), ((), ((ONE, 0, p(1, x=1)),)),
        ((), (((2, 1), 0, ONE), (ONE, 0, ONE))), ((), ((ONE, 0, (LONG + 1, 1)),)),
    ]
    BAD_NUMBERS = [None, 1, True, (2, 4), (1, 0), [1, 1], (LONG + 1, 1), (1, LONG + 1), (-LONG - 1, 1), (True, 1), ()]

    def test_variables_come_first(self):
        for bad in [-1, 4, True, None, "1"]:
            for call in (add_forms, multiply_forms, scale_form, shift_form, form_at):
                check_error(self, BadValue, {"name": "variables"}, call, bad, None, None)
            check_error(self, BadValue, {"name": "variables"}, sum_form, bad, None)
            check_error(self, BadValue, {"name": "variables"}, next_form, bad, None, None, None)

    def test_forms(self):
        for bad in self.BAD_FORMS:
            for call in (add_forms, multiply_forms):
                check_error(self, BadValue, {"name": "first"}, call, 0, bad, bad)
                check_error(self, BadValue, {"name": "second"}, call, 0, COUNT, bad)
            check_error(self, BadValue, {"name": "form"}, scale_form, 0, bad, None)
            check_error(self, BadValue, {"name": "form"}, shift_form, 0, bad, None)
            check_error(self, BadValue, {"name": "form"}, sum_form, 0, bad)
            check_error(self, BadValue, {"name": "form"}, form_at, 0, bad, -1)
            check_error(self, BadValue, {"name": "form"}, next_form, 0, (1, 1), (1, 1), bad)
        check_error(self, BadValue, {"name": "first"}, add_forms, 1, COUNT, COUNT)
        check_error(self, BadValue, {"name": "form"}, sum_form, 2, ((), ((ONE, 0, p(1, x=1)),)))

    def test_coefficients(self):
        for bad in self.BAD_NUMBERS:
            check_error(self, BadValue, {"name": "coefficient"}, scale_form, 0, COUNT, bad)
            check_error(self, BadValue, {"name": "factor"}, next_form, 0, bad, bad, None)
            check_error(self, BadValue, {"name": "start"}, next_form, 0, (1, 1), bad, None)
            check_error(self, BadValue, {"name": "factor"}, next_form, 2, bad, None, None)
        bad_polynomials = [
            (1, 1), p(1, x=1), p(2, x9=1), p(2, x=LONG + 1), p(2, x=(1, LONG + 1)), [], None, p(2, x=1, y=1)[::-1],
        ]
        form = ((), ((ONE, 0, p(2, x=1)),))
        for bad in bad_polynomials:
            check_error(self, BadValue, {"name": "coefficient"}, scale_form, 2, form, bad)
            check_error(self, BadValue, {"name": "start"}, next_form, 2, (1, 1), bad, None)
        check_error(self, BadValue, {"name": "coefficient"}, scale_form, 3, NOTHING, many_terms(41))
        check_call(self, NOTHING, scale_form, 3, NOTHING, many_terms(40))
        check_call(self, numeric(((LONG, 1), 0, (LONG, 1))), next_form, 0, (LONG, 1), (LONG, 1), NOTHING)

    def test_rounds(self):
        for bad in [-1, 21, True, False, None, "1", (1,)]:
            check_error(self, BadValue, {"name": "rounds"}, shift_form, 0, COUNT, bad)
        check_call(self, numeric((ONE, 0, (20, 1)), (ONE, 1, (1, 1))), shift_form, 0, COUNT, 20)
        for bad in [-1, 401, True, False, None, "1", (1,)]:
            check_error(self, BadValue, {"name": "n"}, form_at, 0, COUNT, bad)

    def test_start_form(self):
        form = ((), ((ONE, 0, p(1, x=1)),))
        bad_starts = [
            None, (), [(1, 1)], ((1, 1),) * 4, ((2, 4),), ((True, 1),), ((LONG + 1, 1),), ((1, LONG + 1),), (1,),
            (1, 1), ((1, 1), None), 3,
        ]
        for bad in bad_starts:
            check_error(self, BadValue, {"name": "numbers"}, start_form, bad, form)
            check_error(self, BadValue, {"name": "numbers"}, start_form, bad, None)
        for bad in [None, COUNT, list(form), ((), ((ONE, 9, p(1, x=1)),)), ((p(1, x=1),), form[1])]:
            check_error(self, BadValue, {"name": "form"}, start_form, ((1, 1),), bad)
        check_error(self, BadValue, {"name": "form"}, start_form, ((1, 1), (1, 1)), form)
        check_call(self, numeric((ONE, 0, (LONG, 1))), start_form, ((LONG, 1),), form)


if __name__ == "__main__":
    unittest.main()
