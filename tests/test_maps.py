"""Maps, states, rounds and compositions (points 20 to 22 and 30)."""

import unittest
from fractions import Fraction

from helpers import ODD_VALUES, Picker, check_call, check_error, fraction_value, p, r
from roundknown.errors import BadValue, TooLarge
from roundknown.maps import after_rounds, compose, is_map, is_state, one_round
from roundknown.polynomials import polynomial

SIX = p(2, x3y3=20, x3=-20, x2=(1, 20), y2=(20, 19), x=1, one=(-19, 20))
GOOD = (SIX, p(2, y=1))


def some_map(picker, k, size=5):
    rules = []
    for _ in range(k):
        rows = []
        for _ in range(picker.number(0, 4)):
            rows.append((picker.rational(size, 3), tuple([picker.number(0, 2) for _ in range(k)])))
        rules.append(polynomial(k, rows))
    return tuple(rules) if is_map(tuple(rules)) else some_map(picker, k, size)


class MapTests(unittest.TestCase):
    def test_limits_of_a_map(self):
        check_call(self, True, is_map, GOOD)
        check_call(self, True, is_map, ((),))
        check_call(self, True, is_map, ((), (), ()))
        seven = p(2, x3y3=20, x3=-20, x2=(1, 20), y2=(20, 19), x=1, y=1, one=(-19, 20))
        check_call(self, False, is_map, (seven, p(2, y=1)))
        check_call(self, False, is_map, (p(2, y=1), seven))
        for good in [p(1, x3=1), p(1, x=20), p(1, x=-20), p(1, x=(1, 20)), p(1, x=(-20, 19))]:
            check_call(self, True, is_map, (good,))
        for bad in [p(1, x4=1), p(1, x=21), p(1, x=-21), p(1, x=(1, 21)), p(1, x=(21, 20))]:
            check_call(self, False, is_map, (bad,))
        for bad in [p(3, y4=1), p(3, z4=1), p(3, x3y4z=1)]:
            check_call(self, False, is_map, (p(3, x=1), bad, ()))
        check_call(self, True, is_map, (p(3, x=1), p(3, x3y3z3=1), ()))

    def test_number_of_variables(self):
        check_call(self, False, is_map, ())
        check_call(self, False, is_map, (p(2, x=1),))
        check_call(self, False, is_map, (p(1, x=1), p(1, x=1)))
        check_call(self, False, is_map, (p(2, x=1), p(2, y=1), p(2, x=1)))
        check_call(self, False, is_map, ((), (), (), ()))
        four = tuple([(((1, 1), (1, 0, 0, 0)),)] * 4)
        check_call(self, False, is_map, four)

    def test_wrong_maps(self):
        check_call(self, False, is_map, list(GOOD))
        check_call(self, False, is_map, (list(SIX), p(2, y=1)))
        check_call(self, False, is_map, ((((True, 1), (1,)),),))
        check_call(self, False, is_map, ((((1, 1), (True,)),),))
        check_call(self, False, is_map, ((((2, 4), (1,)),),))
        check_call(self, False, is_map, ((((0, 1), (1,)),),))
        check_call(self, False, is_map, (p(1, x=1, one=1)[::-1],))
        for bad in ODD_VALUES:
            self.assertIs(is_map((bad,)), bad == ())
            if bad != ((),):
                self.assertIs(is_map(bad), False)

    def test_is_state(self):
        for good in [((1000, 1), (-1000, 11)), ((0, 1), (1, 12)), ((-5, 12), (999, 10))]:
            check_call(self, True, is_state, GOOD, good)
        bad_states = [
            ((1001, 1), (0, 1)), ((0, 1), (-1001, 1)), ((1, 13), (0, 1)), ((0, 1), (1, 13)), ((0, 1),),
            ((0, 1), (0, 1), (0, 1)), [(0, 1), (0, 1)], ([0, 1], (0, 1)), ((True, 1), (0, 1)), ((0, True), (0, 1)),
            ((2, 4), (0, 1)), ((0, 2), (0, 1)), ((1, 0), (0, 1)), ((1, -1), (0, 1)), (0, 1), (), ((0, 1), None),
        ]
        for bad in bad_states + ODD_VALUES:
            check_call(self, False, is_state, GOOD, bad)
        for bad in [(), None, list(GOOD), (p(1, x4=1),)]:
            check_error(self, BadValue, {"name": "map"}, is_state, bad, ((0, 1),))
            check_error(self, BadValue, {"name": "map"}, is_state, bad, None)


class RoundTests(unittest.TestCase):
    def test_one_round(self):
        rules = (p(2, x=1, y=1), p(2, x=1))
        check_call(self, ((5, 1), (2, 1)), one_round, rules, ((2, 1), (3, 1)))
        check_call(self, ((7, 6), (1, 2)), one_round, rules, ((1, 2), (2, 3)))
        check_call(self, ((0, 1),), one_round, ((),), ((7, 1),))
        check_call(self, ((10 ** 500 + 1, 1), (10 ** 500, 1)), one_round, rules, ((10 ** 500, 1), (1, 1)))
        check_call(self, ((10 ** 900, 7 ** 800),), one_round, (p(1, x2=1),), ((10 ** 450, 7 ** 400),))

    def test_one_round_errors(self):
        check_error(self, BadValue, {"name": "map"}, one_round, (p(1, x4=1),), None)
        check_error(self, BadValue, {"name": "map"}, one_round, [p(1, x=1)], ((1, 1),))
        for bad in [[(1, 1)], ((1, 1), (1, 1)), (), ((2, 4),), ((True, 1),), (1,), None, ([1, 1],), ((1, 0),)]:
            check_error(self, BadValue, {"name": "numbers"}, one_round, (p(1, x=1),), bad)

    def test_after_rounds(self):
        rules = (p(2, x=1, y=1), p(2, x=1))
        check_call(self, ((1, 1), (0, 1)), after_rounds, rules, ((1, 1), (0, 1)), 0)
        check_call(self, ((1, 1), (1, 1)), after_rounds, rules, ((1, 1), (0, 1)), 1)
        check_call(self, ((89, 1), (55, 1)), after_rounds, rules, ((1, 1), (0, 1)), 10)
        check_call(self, ((1548008755920, 1), (956722026041, 1)), after_rounds, rules, ((1, 1), (0, 1)), 59)
        check_call(self, ((2504730781961, 1), (1548008755920, 1)), after_rounds, rules, ((1, 1), (0, 1)), 60)
        check_call(self, ((1, 2 ** 60),), after_rounds, (p(1, x=(1, 2)),), ((1, 1),), 60)

    def test_after_rounds_repeats_one_round(self):
        picker = Picker(3)
        for _ in range(60):
            k = picker.number(1, 3)
            rules = some_map(picker, k)
            state = tuple([picker.rational() for _ in range(k)])
            numbers = [Fraction(*number) for number in state]
            now = state
            for n in range(4):
                self.assertEqual(after_rounds(rules, state, n), now)
                numbers = [fraction_value(rule, numbers) for rule in rules]
                now = one_round(rules, now)
                self.assertEqual(now, tuple([(x.numerator, x.denominator) for x in numbers]))

    def test_after_rounds_errors(self):
        good = (p(1, x=1),)
        check_error(self, BadValue, {"name": "map"}, after_rounds, (p(1, x4=1),), None, None)
        check_error(self, BadValue, {"name": "state"}, after_rounds, good, ((1001, 1),), None)
        check_error(self, BadValue, {"name": "state"}, after_rounds, good, ((1, 13),), -1)
        check_error(self, BadValue, {"name": "state"}, after_rounds, good, [(1, 1)], 0)
        for bad in [-1, 61, True, False, None, "1", (1,), 1.0]:
            check_error(self, BadValue, {"name": "n"}, after_rounds, good, ((1, 1),), bad)
        for bad in [-1, 61]:
            check_error(self, BadValue, {"name": "n"}, after_rounds, (p(1, x3=1),), ((44, 1),), bad)

    def test_400_digits_above(self):
        rules = (p(1, x2=2),)
        long = after_rounds(rules, ((670, 1),), 7)
        self.assertEqual(len(str(long[0][0])), 400)
        check_call(self, ((2 ** 127 * 670 ** 128, 1),), after_rounds, rules, ((670, 1),), 7)
        check_error(self, TooLarge, {"what": "numbers"}, after_rounds, rules, ((671, 1),), 7)
        check_call(self, ((2 ** 63 * 671 ** 64, 1),), after_rounds, rules, ((671, 1),), 6)
        check_error(self, TooLarge, {"what": "numbers"}, after_rounds, rules, ((670, 1),), 8)
        negative = (p(1, x2=-2),)
        check_call(self, ((-2 ** 127 * 670 ** 128, 1),), after_rounds, negative, ((670, 1),), 7)
        check_error(self, TooLarge, {"what": "numbers"}, after_rounds, negative, ((-671, 1),), 7)

    def test_exactly_10_to_the_400(self):
        rules = (p(2, x3y3=10), p(2, y=1))
        start = ((1, 1), (1000, 1))
        check_call(self, ((10 ** 130, 1), (1000, 1)), after_rounds, rules, start, 3)
        check_error(self, TooLarge, {"what": "numbers"}, after_rounds, rules, start, 4)
        check_error(self, TooLarge, {"what": "numbers"}, after_rounds, rules, ((-1, 1), (1000, 1)), 4)

    def test_long_numbers_on_the_way(self):
        # x has more than 400 digits before y is 0, and is 0 after that.
        rules = (p(2, x3y=1), p(2, y=1, one=-1))
        start = ((10, 1), (10, 1))
        self.assertEqual(after_rounds(rules, start, 5)[1], (5, 1))
        for n in [6, 7, 10, 11, 12, 60]:
            check_error(self, TooLarge, {"what": "numbers"}, after_rounds, rules, start, n)
        check_call(self, ((0, 1), (-1, 1)), after_rounds, rules, ((10, 1), (2, 1)), 3)


class CompositionTests(unittest.TestCase):
    def test_order(self):
        double, more = (p(1, x=2),), (p(1, x=1, one=1),)
        check_call(self, (p(1, x=2, one=1),), compose, double, more)
        check_call(self, (p(1, x=2, one=2),), compose, more, double)

    def test_against_rounds(self):
        picker = Picker(4)
        done = 0
        for _ in range(200):
            k = picker.number(1, 3)
            first, second = some_map(picker, k, 3), some_map(picker, k, 3)
            try:
                both = compose(first, second)
            except TooLarge:
                continue
            done += 1
            self.assertTrue(is_map(both))
            state = tuple([picker.rational() for _ in range(k)])
            self.assertEqual(one_round(both, state), one_round(second, one_round(first, state)))
        self.assertGreater(done, 20)

    def test_limits(self):
        check_call(self, (p(1, x=20),), compose, (p(1, x=4),), (p(1, x=5),))
        check_call(self, (p(1, x=(1, 20)),), compose, (p(1, x=(1, 4)),), (p(1, x=(1, 5)),))
        check_call(self, (p(1, x3=1),), compose, (p(1, x3=1),), (p(1, x=1),))
        square = (p(3, x=1, y=1, z=1), (), p(3, one=1))
        six = p(3, x2=1, xy=2, xz=2, y2=1, yz=2, z2=1)
        check_call(self, (six, (), ()), compose, square, (p(3, x2=1), (), ()))
        too_large = [
            ((p(1, x=3),), (p(1, x=7),)), ((p(1, x=(1, 3)),), (p(1, x=(1, 7)),)), ((p(1, x2=1),), (p(1, x2=1),)),
            (square, (p(3, x2=1, z=1), (), ())), ((p(1, x=3),), (p(1, x=-7),)),
        ]
        for first, second in too_large:
            check_error(self, TooLarge, {"what": "map"}, compose, first, second)

    def test_only_the_result_counts(self):
        first = (p(2, x3y=20), p(2, x3y=20))
        check_call(self, ((), p(2, x3y=20)), compose, first, (p(2, x3=1, y3=-1), p(2, x=1)))

    def test_large_exponents(self):
        high = p(3, x3y3z3=1, x3y3z2=2, x3y2z3=3, x2y3z3=4, x3y3z=5, xy3z3=6)
        check_error(self, TooLarge, {"what": "map"}, compose, (high, high, high), (high, high, high))

    def test_errors(self):
        one, two = (p(1, x=1),), (p(2, x=1), p(2, y=1))
        check_error(self, BadValue, {"name": "first"}, compose, (p(1, x4=1),), None)
        check_error(self, BadValue, {"name": "first"}, compose, list(one), one)
        check_error(self, BadValue, {"name": "second"}, compose, one, (p(1, x4=1),))
        check_error(self, BadValue, {"name": "second"}, compose, one, two)
        check_error(self, BadValue, {"name": "second"}, compose, two, one)
        check_error(self, BadValue, {"name": "second"}, compose, (p(1, x3=20),), list(one))
        check_error(self, BadValue, {"name": "second"}, compose, one, None)


class DenominatorTests(unittest.TestCase):
    def test_400_digits_below(self):
        rules = (p(2, x2y2=(1, 7)), p(2, y=1))
        found = after_rounds(rules, (r(1, 4), r(1, 7)), 7)
        self.assertEqual((found[0][0], len(str(found[0][1]))), (1, 400))
        rules = (p(1, x3=(1, 14)),)
        self.assertEqual(after_rounds(rules, (r(1, 12),), 4)[0][0], 1)
        check_error(self, TooLarge, {"what": "numbers"}, after_rounds, rules, (r(1, 12),), 5)


if __name__ == "__main__":
    unittest.main()
