"""Relations (points 75 to 81)."""

import unittest
from fractions import Fraction

from helpers import ODD_VALUES, Picker, check_call, check_error, fraction_value, p
from roundknown.errors import BadValue, NotTold, TooLarge
from roundknown.futures import future_of
from roundknown.layers import why_not
from roundknown.maps import is_map, one_round
from roundknown.polynomials import add, is_polynomial, multiply, polynomial, scale
from roundknown.relations import accepts_relation, first_exception, monomials, relations, rounds_enough
from test_futures import layered_map

ONE = (1, 1)
SQUARES = (p(2, x=1, one=1), p(2, x=2, y=1, one=1))
ORIGIN = ((0, 1), (0, 1))
COUNT = (p(1, x=1, one=1),)
# From 0 the last variable is n (n - 1) (n - 2) / 6.
CUBIC = (p(3, x=1, one=1), p(3, x=1, y=1), p(3, y=1, z=1))
WIDE = (p(3, x=20), p(3, y=(19, 20), x3=1), p(3, z=(1, 19), x3y3=1, y3=1, x2y3=1, y2=1, xy=1))
WIDE_START = ((999, 11), (-997, 7), (991, 12))
FIBONACCI = (p(2, x=1, y=1), p(2, x=1))


def degree_of(polynomial):
    return max([sum(exponents) for number, exponents in polynomial], default=0)


def states_of(rules, state, count):
    """The states after 0, 1, .. rounds, as many as count."""
    found = [state]
    while len(found) < count:
        found.append(one_round(rules, found[-1]))
    return found


def reduced_basis(rules, state, degree, count):
    """The reduced basis of the polynomials that are 0 in the first rounds, by elimination with fractions."""
    k = len(rules)
    order = monomials(k, degree)
    rows = []
    for numbers in states_of(rules, state, count):
        fractions = [Fraction(*number) for number in numbers]
        values = [fraction_value(((ONE, exponents),), fractions) for exponents in order]
        # The last columns get their pivots first, so that the first columns stay free.
        rows.append(values[::-1])
    pivots = []
    for column in range(len(order)):
        lead = [row for row in rows[len(pivots):] if row[column] != 0]
        if not lead:
            continue
        row = lead[0]
        rows.remove(row)
        row = [number / row[column] for number in row]
        rows = [[a - other[column] * b for a, b in zip(other, row)] for other in rows]
        rows.insert(len(pivots), row)
        pivots.append(column)
    basis = []
    for free in [column for column in range(len(order)) if column not in pivots]:
        terms = [(ONE, order[::-1][free])]
        for row, pivot in zip(rows, pivots):
            number = -row[free]
            terms.append(((number.numerator, number.denominator), order[::-1][pivot]))
        basis.append(polynomial(k, terms))
    return basis[::-1]


class MonomialTests(unittest.TestCase):
    def test_monomials(self):
        check_call(self, [(1, 0), (0, 1), (0, 0)], monomials, 2, 1)
        check_call(self, [(3,), (2,), (1,), (0,)], monomials, 1, 3)
        check_call(self, [(2, 0), (1, 1), (0, 2), (1, 0), (0, 1), (0, 0)], monomials, 2, 2)
        check_call(self, [(1, 0, 0), (0, 1, 0), (0, 0, 1), (0, 0, 0)], monomials, 3, 1)
        third = [(3, 0, 0), (2, 1, 0), (2, 0, 1), (1, 2, 0), (1, 1, 1), (1, 0, 2)]
        third += [(0, 3, 0), (0, 2, 1), (0, 1, 2), (0, 0, 3)]
        second = [(2, 0, 0), (1, 1, 0), (1, 0, 1), (0, 2, 0), (0, 1, 1), (0, 0, 2)]
        check_call(self, second + monomials(3, 1), monomials, 3, 2)
        check_call(self, third + monomials(3, 2), monomials, 3, 3)
        for k, counts in [(1, (1, 2, 3, 4)), (2, (1, 3, 6, 10)), (3, (1, 4, 10, 20))]:
            for degree, count in enumerate(counts):
                found = monomials(k, degree)
                self.assertEqual(len(found), count)
                self.assertEqual(found[-1], (0,) * k)
                self.assertTrue(is_polynomial(k, tuple([(ONE, exponents) for exponents in found])))

    def test_errors(self):
        for bad in [0, 4, -1, True, False, None, "1", (1,), 1.0]:
            check_error(self, BadValue, {"name": "variables"}, monomials, bad, None)
        for bad in [4, -1, True, False, None, "1", (1,), 1.0]:
            check_error(self, BadValue, {"name": "degree"}, monomials, 2, bad)


class EnoughTests(unittest.TestCase):
    def test_by_hand(self):
        check_call(self, 5, rounds_enough, SQUARES, ORIGIN, 2)
        # n to the powers 0, 2 and 4 with the base 1; up to the degree 1 only the powers 0 to 2.
        for degree, expected in enumerate([1, 3, 5, 7]):
            check_call(self, expected, rounds_enough, SQUARES, ORIGIN, degree)
        # The bases 1, 2, 4, 8.
        for degree in range(4):
            check_call(self, degree + 1, rounds_enough, (p(1, x=2),), ((3, 1),), degree)
            check_call(self, 1, rounds_enough, (p(1, x=2),), ((0, 1),), degree)
        # The bases 1 and -1, then (-1) squared is 1 again.
        for degree, expected in enumerate([1, 2, 2, 2]):
            check_call(self, expected, rounds_enough, (p(1, x=-1),), ((3, 1),), degree)
        # The bases 1, 2, 3, 4, 6, 9.
        for degree, expected in enumerate([1, 3, 6, 10]):
            check_call(self, expected, rounds_enough, (p(2, x=2), p(2, y=3)), ((3, 1), (1, 1)), degree)
        # n times 2 to the n counts 2 for the base 2, and its square 3 for the base 4.
        both = (p(2, x=2, y=1), p(2, y=2))
        for degree, expected in enumerate([1, 3, 6, 10]):
            check_call(self, expected, rounds_enough, both, ((1, 1), (2, 1)), degree)

    def test_first_values(self):
        # Without a base of its own: only the monomial 1 has one.
        for degree, expected in enumerate([1, 2, 2, 2]):
            check_call(self, expected, rounds_enough, ((),), ((5, 1),), degree)
            check_call(self, 1, rounds_enough, ((),), ((0, 1),), degree)
        passing = (p(3, y=1), p(3, z=1), ())
        for degree, expected in enumerate([1, 4, 4, 4]):
            check_call(self, expected, rounds_enough, passing, ((1, 1), (2, 1), (3, 1)), degree)
            check_call(self, expected - (degree > 0), rounds_enough, passing, ((1, 1), (2, 1), (0, 1)), degree)
        # x is 5, then 2 to the n: F is 1, and the bases are 1, 2, 4, 8.
        late = (p(2, y=2), p(2, y=2))
        for degree, expected in enumerate([1, 3, 4, 5]):
            check_call(self, expected, rounds_enough, late, ((5, 1), (1, 1)), degree)
            check_call(self, expected - (degree > 0), rounds_enough, late, ((1, 1), (1, 1)), degree)


class RelationTests(unittest.TestCase):
    def check_basis(self, rules, state, degree):
        found = relations(rules, state, degree)
        self.assertIs(type(found), list)
        enough = rounds_enough(rules, state, degree)
        self.assertEqual(found, reduced_basis(rules, state, degree, enough), (rules, state, degree))
        self.assertEqual(found, reduced_basis(rules, state, degree, enough + 4))
        order = monomials(len(rules), degree)
        leads = [order.index(p[0][1]) for p in found]
        self.assertEqual(leads, sorted(leads))
        for place, relation in enumerate(found):
            self.assertTrue(is_polynomial(len(rules), relation))
            self.assertEqual(relation[0][0], ONE)
            self.assertIs(accepts_relation(rules, state, relation), True)
            self.assertIsNone(first_exception(rules, state, relation))
            others = [exponents for other in found[:place] + found[place + 1:] for number, exponents in other]
            self.assertNotIn(relation[0][1], others)
        return found

    def test_example(self):
        check_call(self, [p(2, x2=1, y=-1)], relations, SQUARES, ORIGIN, 2)
        check_call(self, [], relations, SQUARES, ORIGIN, 1)
        check_call(self, [], relations, SQUARES, ORIGIN, 0)
        expected = [p(2, x3=1, xy=-1), p(2, x2y=1, y2=-1), p(2, x2=1, y=-1)]
        check_call(self, expected, relations, SQUARES, ORIGIN, 3)

    def test_bases(self):
        # x is 2, y is 4, z is 8 to the n.
        powers = (p(3, x=2), p(3, y=4), p(3, z=8))
        start = (ONE, ONE, ONE)
        check_call(self, [p(3, x2=1, y=-1), p(3, xy=1, z=-1), p(3, xz=1, y2=-1)], relations, powers, start, 2)
        self.check_basis(powers, start, 3)
        # Bases and starts of both signs, and fractions.
        halves = (p(2, x=(-1, 2)), p(2, y=(1, 4)))
        check_call(self, [p(2, x2=1, y=(-9, 7))], relations, halves, ((-3, 1), (7, 1)), 2)
        turning = (p(2, x=-1), p(2, y=2))
        check_call(self, [p(2, x2=1, one=(-25, 9))], relations, turning, ((5, 3), (1, 1)), 2)
        opposite = (p(2, x=2), p(2, y=-2))
        check_call(self, [p(2, x2=1, y2=-1)], relations, opposite, ((1, 1), (-1, 1)), 2)

    def test_constant(self):
        stays = (p(2, x=1), p(2, y=1))
        check_call(self, [p(2, x=1, one=(-1, 2)), p(2, y=1)], relations, stays, ((1, 2), (0, 1)), 1)
        check_call(self, [], relations, stays, ((1, 2), (0, 1)), 0)
        expected = [p(1, x3=1, one=-8), p(1, x2=1, one=-4), p(1, x=1, one=-2)]
        check_call(self, expected, relations, (p(1, x=1),), ((2, 1),), 3)
        check_call(self, [p(1, x3=1), p(1, x2=1), p(1, x=1)], relations, ((),), ((0, 1),), 3)

    def test_first_values(self):
        # x is 5 in round 0 and 3 later: it is off the line on which it stays.
        three = (p(1, one=3),)
        check_call(self, [p(1, x2=1, x=-8, one=15)], relations, three, ((5, 1),), 2)
        check_call(self, [], relations, three, ((5, 1),), 1)
        check_call(self, [p(1, x=1, one=-3)], relations, three, ((3, 1),), 1)
        off = (p(2, y=1), p(2, y=1))
        self.check_basis(off, ((5, 1), (2, 1)), 2)
        self.assertNotIn(p(2, x=1, y=-1), self.check_basis(off, ((5, 1), (2, 1)), 1))
        self.assertIs(accepts_relation(off, ((5, 1), (2, 1)), p(2, x=1, y=-1)), False)
        # Far enough, x is y; in the first round it is not.
        late = (p(2, y=2), p(2, y=2))
        check_call(self, [p(2, x=1, y=-1)], relations, late, (ONE, ONE), 1)
        check_call(self, [], relations, late, ((5, 1), ONE), 1)
        check_call(self, 0, first_exception, late, ((5, 1), ONE), p(2, x=1, y=-1))
        expected = [p(2, x2=1, y2=-1, x=-6, y=6), p(2, xy=1, y2=-1, x=-1, y=1)]
        check_call(self, expected, relations, late, ((5, 1), ONE), 2)

    def test_against_elimination(self):
        picker = Picker(77)
        done, some = 0, 0
        while done < 100:
            rules = layered_map(picker)
            if why_not(rules) is not None:
                continue
            state = tuple([picker.rational(4, 3) for _ in rules])
            degree = picker.number(0, 3 if len(rules) < 3 else 2)
            try:
                found = self.check_basis(rules, state, degree)
            except TooLarge as error:
                self.assertEqual(error.what, "form")
                continue
            done += 1
            some += bool(found)
            # Totals of relations are relations, and nothing else near them.
            total = ()
            for relation in found:
                total = add(total, scale(relation, picker.nonzero(9, 5)))
            self.assertIs(accepts_relation(rules, state, total), True)
            if degree < 3:
                more = multiply(total, p(len(rules), x=1, one=-2))
                self.assertIs(accepts_relation(rules, state, more), True)
            other = add(total, p(len(rules), one=1))
            self.assertIs(accepts_relation(rules, state, other), False)
        self.assertGreater(some, 30)

    def test_changed_list(self):
        found = relations(SQUARES, ORIGIN, 2)
        found.clear()
        self.assertEqual(relations(SQUARES, ORIGIN, 2), [p(2, x2=1, y=-1)])


class JudgeTests(unittest.TestCase):
    def test_examples(self):
        check_call(self, 2, first_exception, SQUARES, ORIGIN, p(2, x=1, y=-1))
        check_call(self, True, accepts_relation, SQUARES, ORIGIN, p(2, x2=1, y=-1))
        check_call(self, None, first_exception, SQUARES, ORIGIN, p(2, x2=1, y=-1))

    def test_nothing(self):
        for rules, state in [(SQUARES, ORIGIN), (COUNT, ((7, 2),)), (CUBIC, ((1, 1),) * 3)]:
            check_call(self, True, accepts_relation, rules, state, ())
            check_call(self, None, first_exception, rules, state, ())
            check_call(self, False, accepts_relation, rules, state, p(len(rules), one=1))
            check_call(self, 0, first_exception, rules, state, p(len(rules), one=(-1, 10 ** 70)))

    def test_many_rounds(self):
        # 0 in the rounds 0, 1 and 2.
        falling = p(1, x3=1, x2=-3, x=2)
        check_call(self, False, accepts_relation, COUNT, ((0, 1),), falling)
        check_call(self, 3, first_exception, COUNT, ((0, 1),), falling)
        self.assertEqual(rounds_enough(COUNT, ((0, 1),), 3), 4)
        # 0 in the rounds 0 to 5, one less than are enough for the degree 3.
        late = [q for q in reduced_basis(SQUARES, ORIGIN, 3, 6) if q not in reduced_basis(SQUARES, ORIGIN, 3, 7)]
        self.assertIn(6, [first_exception(SQUARES, ORIGIN, q) for q in late])
        self.assertEqual(rounds_enough(SQUARES, ORIGIN, 3), 7)

    def test_exceptions(self):
        picker = Picker(79)
        done = 0
        while done < 100:
            rules = layered_map(picker)
            k = len(rules)
            if why_not(rules) is not None:
                continue
            state = tuple([picker.rational(3, 2) for _ in range(k)])
            order = monomials(k, 2)
            rows = [(picker.nonzero(5, 3), order[picker.number(0, len(order) - 1)]) for _ in range(3)]
            checked = polynomial(k, rows)
            try:
                enough = rounds_enough(rules, state, degree_of(checked))
            except TooLarge:
                check_error(self, TooLarge, {"what": "form"}, first_exception, rules, state, checked)
                continue
            done += 1
            wrong = [n for n, numbers in enumerate(states_of(rules, state, enough))
                     if fraction_value(checked, [Fraction(*number) for number in numbers]) != 0]
            check_call(self, wrong[0] if wrong else None, first_exception, rules, state, checked)
            check_call(self, not wrong, accepts_relation, rules, state, checked)

    def test_degree_of_the_polynomial_counts(self):
        start = ((0, 1),) * 3
        # z to the power 3 has the power 9 in n, which is not within size.
        for checked in [(), p(3, z=1), p(3, z2=1), p(3, x=1, one=5)]:
            accepts_relation(CUBIC, start, checked)
            first_exception(CUBIC, start, checked)
        for checked in [p(3, z3=1), p(3, x3=1), p(3, xyz=1, one=1)]:
            check_error(self, TooLarge, {"what": "form"}, accepts_relation, CUBIC, start, checked)
            check_error(self, TooLarge, {"what": "form"}, first_exception, CUBIC, start, checked)
        for degree in (0, 1, 2):
            rounds_enough(CUBIC, start, degree)
            relations(CUBIC, start, degree)
        check_error(self, TooLarge, {"what": "form"}, rounds_enough, CUBIC, start, 3)
        check_error(self, TooLarge, {"what": "form"}, relations, CUBIC, start, 3)
        # Coefficients of any size.
        long = p(2, x2=10 ** 100, y=-10 ** 100)
        check_call(self, True, accepts_relation, SQUARES, ORIGIN, long)
        check_call(self, 0, first_exception, SQUARES, ORIGIN, add(long, p(2, one=(1, 10 ** 100))))


class ErrorTests(unittest.TestCase):
    CALLS = [(rounds_enough, "degree", 1), (relations, "degree", 1), (accepts_relation, "polynomial", p(2, x=1)),
             (first_exception, "polynomial", p(2, x=1))]

    def test_map_and_state(self):
        for call, name, good in self.CALLS:
            for bad in [odd for odd in ODD_VALUES if not is_map(odd)] + [list(SQUARES), (p(2, x4=1), p(2, y=1))]:
                check_error(self, BadValue, {"name": "map"}, call, bad, None, None)
            for bad in ODD_VALUES + [list(ORIGIN), ORIGIN[:1], ((1001, 1), (0, 1)), ((0, 1), (1, 13))]:
                check_error(self, BadValue, {"name": "state"}, call, SQUARES, bad, None)
                check_error(self, BadValue, {"name": "state"}, call, FIBONACCI, bad, good)

    def test_degrees(self):
        for call in (rounds_enough, relations):
            for bad in [4, -1, True, False, None, "1", (1,), 1.0]:
                check_error(self, BadValue, {"name": "degree"}, call, SQUARES, ORIGIN, bad)
                check_error(self, BadValue, {"name": "degree"}, call, FIBONACCI, ORIGIN, bad)
                check_error(self, BadValue, {"name": "degree"}, call, WIDE, WIDE_START, bad)

    def test_polynomials(self):
        for call in (accepts_relation, first_exception):
            for bad in [odd for odd in ODD_VALUES if odd != ()] + [p(2, x3y=1), p(2, y4=1), p(1, x=1), p(3, z=1), [],
                                                                   (((2, 2), (1, 0)),), p(2, x=1, y=1)[::-1]]:
                check_error(self, BadValue, {"name": "polynomial"}, call, SQUARES, ORIGIN, bad)
                check_error(self, BadValue, {"name": "polynomial"}, call, FIBONACCI, ORIGIN, bad)
            call(SQUARES, ORIGIN, p(2, x3=1))

    def test_not_told(self):
        reason = ("irrational", (0, 1), ((-1, 1), (-1, 1), (1, 1)))
        product = ("product", 0, ((1, 1), (2,)))
        for call, name, good in self.CALLS:
            check_error(self, NotTold, {"reason": reason}, call, FIBONACCI, ORIGIN, good)
            good = 3 if name == "degree" else ()
            check_error(self, NotTold, {"reason": product}, call, (p(1, x2=1),), ((0, 1),), good)

    def test_too_large(self):
        with self.assertRaises(TooLarge):
            future_of(WIDE, WIDE_START)
        for degree in range(4):
            check_error(self, TooLarge, {"what": "form"}, rounds_enough, WIDE, WIDE_START, degree)
            check_error(self, TooLarge, {"what": "form"}, relations, WIDE, WIDE_START, degree)
        for checked in [(), p(3, x=1)]:
            check_error(self, TooLarge, {"what": "form"}, accepts_relation, WIDE, WIDE_START, checked)
            check_error(self, TooLarge, {"what": "form"}, first_exception, WIDE, WIDE_START, checked)


if __name__ == "__main__":
    unittest.main()
