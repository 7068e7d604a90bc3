"""The futures of maps (points 42 to 46 and 49)."""

import unittest
from fractions import Fraction

from helpers import ODD_VALUES, Picker, check_call, check_error, form_value, p, r
from roundknown.errors import BadValue, NotTold, TooLarge
from roundknown.forms import add_forms, form_at, is_form, next_form, shift_form, start_form
from roundknown.futures import forms_of, future_of, is_future
from roundknown.layers import why_not
from roundknown.maps import after_rounds, is_map, one_round
from roundknown.polynomials import polynomial

ONE = (1, 1)
EXCHANGE = (p(2, y=1), p(2, x=1))
FALLING = (p(2, x=2, y=1), p(2, y=1, one=-1))
FIBONACCI = (p(2, x=1, y=1), p(2, x=1))
PRODUCT = (p(2, xy=1), p(2, y=1))


def identity(k):
    return tuple([(((1, 1), tuple([int(i == j) for j in range(k)])),) for i in range(k)])


def layered_map(picker):
    """A map with random layers; it need not be told."""
    k = picker.number(1, 3)
    order = list(range(k))
    if picker.number(0, 1):
        order.reverse()
    cut = picker.number(1, k)
    groups = [order[:cut]] + [[i] for i in order[cut:]]
    rules = [()] * k
    before = []
    for group in groups:
        for i in group:
            rows = {}
            for j in group:
                if picker.number(0, 2):
                    rows[tuple([int(j == other) for other in range(k)])] = picker.nonzero(3, 2)
            for _ in range(picker.number(0, 2)):
                exponents = tuple([picker.number(0, 2) if j in before else 0 for j in range(k)])
                rows[exponents] = picker.nonzero(4, 3)
            rules[i] = polynomial(k, [(c, e) for e, c in rows.items()])
        before.extend(group)
    return tuple(rules)


class FutureTests(unittest.TestCase):
    def test_examples(self):
        x_form = ((), (((-1, 1), 0, (-2, 1)), (ONE, 0, (3, 1))))
        y_form = ((), (((-1, 1), 0, (2, 1)), (ONE, 0, (3, 1))))
        check_call(self, (x_form, y_form), future_of, EXCHANGE, ((1, 1), (5, 1)))
        x_form = ((), ((ONE, 0, p(2, y=-1, one=1)), (ONE, 1, p(2, one=1)), ((2, 1), 0, p(2, x=1, y=1, one=-1))))
        y_form = ((), ((ONE, 0, p(2, y=1)), (ONE, 1, p(2, one=-1))))
        check_call(self, (x_form, y_form), forms_of, FALLING)
        passing = (p(2, y=1), ())
        check_call(self, (((p(2, x=1), p(2, y=1)), ()), ((p(2, y=1),), ())), forms_of, passing)
        layered = (p(3, y=2), p(3, x=8), p(3, z=2, xy=1))
        self.assertTrue(is_future(layered, forms_of(layered)))

    def test_small_maps(self):
        check_call(self, (((p(1, x=1),), ()),), forms_of, ((),))
        check_call(self, (((p(1, x=1),), ((ONE, 0, p(1, one=3)),)),), forms_of, (p(1, one=3),))
        check_call(self, (((), ((ONE, 0, p(1, x=1)),)),), forms_of, (p(1, x=1),))
        check_call(self, (((), (((-1, 2), 0, p(1, x=1)),)),), forms_of, (p(1, x=(-1, 2)),))
        check_call(self, (((), ((ONE, 0, p(1, x=1)), (ONE, 1, p(1, one=5)))),), forms_of, (p(1, x=1, one=5),))
        check_call(self, (((), ()),), future_of, ((),), ((0, 1),))
        check_call(self, ((((7, 2),), ()),), future_of, ((),), ((7, 2),))
        check_call(self, (((), ((ONE, 0, (3, 1)),)),), future_of, (p(1, one=3),), ((3, 1),))
        check_call(self, ((((4, 1),), ((ONE, 0, (3, 1)),)),), future_of, (p(1, one=3),), ((4, 1),))

    def test_eigenvalue_zero_leaves_first_values(self):
        chain = (p(3, y=1), p(3, z=1), ())
        x_form = ((p(3, x=1), p(3, y=1), p(3, z=1)), ())
        y_form, z_form = ((p(3, y=1), p(3, z=1)), ()), ((p(3, z=1),), ())
        check_call(self, (x_form, y_form, z_form), forms_of, chain)
        check_call(self, ((((1, 1), (2, 1), (3, 1)), ()), (((2, 1), (3, 1)), ()), (((3, 1),), ())),
                   future_of, chain, ((1, 1), (2, 1), (3, 1)))
        expected = ((((1, 1), (2, 1)), ()), (((2, 1),), ()), ((), ()))
        check_call(self, expected, future_of, chain, ((1, 1), (2, 1), (0, 1)))
        one_part = (p(3, x=1, y=1, z=-2), p(3, x=1, y=1, z=-2), p(3, x=1, y=1, z=-2))
        found = forms_of(one_part)
        self.assertEqual(found[0], ((p(3, x=1), p(3, x=1, y=1, z=-2)), ()))
        mixed = (p(2, x=1, y=1), p(2, x=1, y=1))
        self.assertEqual(forms_of(mixed)[0], ((p(2, x=1),), (((2, 1), 0, p(2, x=(1, 2), y=(1, 2))),)))

    def test_equal_eigenvalues(self):
        jordan = (p(2, x=1, y=1), p(2, x=-1, y=3))
        found = forms_of(jordan)
        expected = ((), (((2, 1), 0, p(2, x=1)), ((2, 1), 1, p(2, x=(-1, 2), y=(1, 2)))))
        self.assertEqual(found[0], expected)
        steps = (p(3, x=1, one=1), p(3, y=1, x=1), p(3, z=1, y=1))
        found = forms_of(steps)
        self.assertEqual([term[1] for term in found[2][1]], [0, 1, 2, 3])
        self.assertEqual(found[2][1][-1], (ONE, 3, p(3, one=(1, 6))))

    def test_against_rounds(self):
        picker = Picker(11)
        told = 0
        for _ in range(400):
            rules = layered_map(picker)
            self.assertTrue(is_map(rules))
            reason = why_not(rules)
            k = len(rules)
            state = tuple([picker.rational(5, 3) for _ in range(k)])
            if reason is not None:
                check_error(self, NotTold, {"reason": reason}, forms_of, rules)
                check_error(self, NotTold, {"reason": reason}, future_of, rules, state)
                continue
            told += 1
            forms = forms_of(rules)
            self.check_forms(rules, forms, state)
            future = future_of(rules, state)
            self.assertEqual(tuple([start_form(state, form) for form in forms]), future)
            for n in range(8):
                numbers = after_rounds(rules, state, n)
                self.assertEqual(tuple([form_at(0, form, n) for form in future]), numbers)
                self.assertEqual(tuple([r(form_value(form, n)) for form in future]), numbers)
        self.assertGreater(told, 150)

    def check_forms(self, rules, forms, state):
        k = len(rules)
        self.assertEqual(len(forms), k)
        start = [Fraction(*number) for number in state]
        for form in forms:
            self.assertTrue(is_form(k, form))
            self.assertLessEqual(len(form[0]), k)
        for n in range(5):
            values = tuple([r(form_value(form, n, start)) for form in forms])
            self.assertEqual(values, after_rounds(rules, state, n))
        self.assertIs(is_future(rules, forms), True)

    def test_far_rounds(self):
        future = future_of(FALLING, ((1, 1), (10, 1)))
        self.assertEqual(form_at(0, future[0], 11), (20482, 1))
        self.assertEqual(form_at(0, future[0], 400), (10 * 2 ** 400 - 9 + 400, 1))
        self.assertEqual(form_at(0, future[1], 400), (-390, 1))

    def test_errors(self):
        for bad in ODD_VALUES + [(p(1, x4=1),), list(EXCHANGE)]:
            if bad != ((),):
                check_error(self, BadValue, {"name": "map"}, forms_of, bad)
                check_error(self, BadValue, {"name": "map"}, future_of, bad, ((1, 1),))
                check_error(self, BadValue, {"name": "map"}, future_of, bad, None)
                check_error(self, BadValue, {"name": "map"}, is_future, bad, ())
        for rules in (EXCHANGE, FIBONACCI, PRODUCT):
            for bad in [None, ((1, 1),), ((1001, 1), (0, 1)), ((1, 13), (0, 1)), [(1, 1), (1, 1)], ((2, 4), (1, 1))]:
                check_error(self, BadValue, {"name": "state"}, future_of, rules, bad)
        reasons = [
            (FIBONACCI, ("irrational", (0, 1), ((-1, 1), (-1, 1), (1, 1)))), (PRODUCT, ("product", 0, (ONE, (1, 1)))),
        ]
        for rules, reason in reasons:
            check_error(self, NotTold, {"reason": reason}, forms_of, rules)
            check_error(self, NotTold, {"reason": reason}, future_of, rules, ((1, 1), (1, 1)))


class TooLargeTests(unittest.TestCase):
    STATE = ((2, 1), (3, 1), (5, 1))

    def check_too_large(self, call, *arguments):
        check_error(self, TooLarge, {"what": "form"}, call, *arguments)

    def test_exponents(self):
        # The ninth power of x is too much for a form of polynomials, but not for a number.
        rules = (p(3, x=1), p(3, x3=1), p(3, y3=1))
        self.check_too_large(forms_of, rules)
        z_form = (((5, 1), (27, 1)), ((ONE, 0, (512, 1)),))
        self.assertEqual(future_of(rules, self.STATE)[2], z_form)
        rules = (p(3, x=1), p(3, x3=1), p(3, x2y2=1))
        self.assertEqual(forms_of(rules)[2], ((p(3, z=1), p(3, x2y2=1)), ((ONE, 0, p(3, x8=1)),)))

    def test_powers(self):
        # The drive of z has the power 8 in both maps.
        rules = (p(3, x=1, one=1), p(3, y=1, x3=1), p(3, z=1, y2=1))
        self.check_too_large(forms_of, rules)
        self.check_too_large(future_of, rules, self.STATE)
        rules = (p(3, x=1, one=1), p(3, y=1, x3=1), p(3, z=2, y2=1))
        self.assertEqual(max([term[1] for term in forms_of(rules)[2][1]]), 8)
        self.assertEqual(max([term[1] for term in future_of(rules, self.STATE)[2][1]]), 8)
        rules = (p(3, x=1, one=1), p(3, y=1, x3=1), p(3, xy2=1))
        self.check_too_large(forms_of, rules)
        self.check_too_large(future_of, rules, self.STATE)

    def test_number_of_terms(self):
        x_rule, y_rule = p(3, x=2, one=1), p(3, y=5, x3=1)
        thirty = future_of((x_rule, y_rule, p(3, x2y3=1)), self.STATE)[2]
        self.assertEqual((len(thirty[0]), len(thirty[1])), (1, 30))
        self.check_too_large(future_of, (x_rule, y_rule, p(3, x2y3=1, z=7)), self.STATE)
        self.check_too_large(future_of, (x_rule, y_rule, p(3, x3y3=1)), self.STATE)

    def test_a_drive_alone(self):
        # The drive of z has longer coefficients than its future, which is the drive one round later.
        rules = (p(3, x=14, one=(9, 19)), p(3, x3=(-7, 5)), p(3, x3y3=2))
        self.check_too_large(future_of, rules, (r(863, 7), r(-583, 12), r(-29, 1)))
        x_form, y_form = future_of(rules[:2] + (p(3, z=1),), (r(863, 7), r(-583, 12), r(-29, 1)))[:2]
        numbers = (r(863, 7), r(-583, 12), r(-29, 1))
        for n in range(4):
            self.assertEqual((form_at(0, x_form, n), form_at(0, y_form, n)), numbers[:2])
            numbers = one_round(rules, numbers)

    def test_reason_before_size(self):
        rules = (p(3, x=1), p(3, x3=1), p(3, y3=1, z2=1))
        check_error(self, NotTold, {"reason": ("product", 2, (ONE, (0, 0, 2)))}, forms_of, rules)


class JudgeTests(unittest.TestCase):
    def test_told_maps(self):
        for rules in (EXCHANGE, FALLING, ((),), (p(1, one=3),), (p(3, y=1), p(3, z=1), ())):
            forms = forms_of(rules)
            check_call(self, True, is_future, rules, forms)
            for place, form in enumerate(forms):
                one = tuple([(ONE, (0,) * len(rules))])
                for wrong in (add_forms(len(rules), form, ((), ((ONE, 0, one),))), shift_form(len(rules), form, 1)):
                    if wrong != form:
                        check_call(self, False, is_future, rules, forms[:place] + (wrong,) + forms[place + 1:])
            if len(forms) > 1 and forms[0] != forms[1]:
                check_call(self, False, is_future, rules, (forms[1], forms[0]) + forms[2:])

    def test_wrong_only_later(self):
        keep = (p(1, x=1),)
        right = ((), ((ONE, 0, p(1, x=1)),))
        check_call(self, True, is_future, keep, (right,))
        for length in range(1, 8):
            late = ((p(1, x=1),) * length + (p(1, x=2),), ((ONE, 0, p(1, x=1)),))
            check_call(self, False, is_future, keep, (late,))
            check_call(self, False, is_future, keep, (((p(1, x=1),) * length, ()),))
        # These forms are right at the starts 2, 3 and 5, and at the start 0, but not at all starts.
        nearly = p(1, x4=1, x3=-10, x2=31, x=-29)
        check_call(self, False, is_future, keep, (((p(1, x=1),), ((ONE, 0, nearly),)),))
        check_call(self, True, is_form, 1, ((p(1, x=1),), ((ONE, 0, nearly),)))
        grown = next_form(1, (1, 1), p(1, x=1), ((), ((ONE, 0, p(1, x4=1, x3=-10, x2=31, x=-30)),)))
        check_call(self, False, is_future, keep, (grown,))

    def test_wrong_start(self):
        double = (p(1, x=2),)
        check_call(self, True, is_future, double, (((), (((2, 1), 0, p(1, x=1)),)),))
        check_call(self, False, is_future, double, (((), (((2, 1), 0, p(1, x=2)),)),))
        check_call(self, False, is_future, double, (((), ()),))

    def test_maps_that_are_not_told(self):
        # x becomes xy, and y becomes 0 or 1 for good.
        rules = (p(2, xy=1), ())
        self.assertEqual(why_not(rules)[0], "product")
        y_form = ((p(2, y=1),), ())
        check_call(self, True, is_future, rules, (((p(2, x=1), p(2, xy=1)), ()), y_form))
        check_call(self, False, is_future, rules, (((p(2, x=1), p(2, xy=1), p(2, x=1)), ()), y_form))
        check_call(self, False, is_future, rules, (((p(2, x=1), p(2, xy=2)), ()), y_form))
        rules = (p(2, xy=1), p(2, one=1))
        forms = (((p(2, x=1),), ((ONE, 0, p(2, xy=1)),)), ((p(2, y=1),), ((ONE, 0, p(2, one=1)),)))
        check_call(self, True, is_future, rules, forms)
        check_call(self, False, is_future, rules, (forms[0], y_form))
        # x becomes x + (x + y) squared, and y becomes y - (x + y) squared.
        square = {"x2": 1, "xy": 2, "y2": 1}
        rules = (p(2, x=1, **square), p(2, y=1, **{word: -n for word, n in square.items()}))
        self.assertEqual(why_not(rules)[0], "product")
        x_form = ((), ((ONE, 0, p(2, x=1)), (ONE, 1, p(2, **square))))
        y_form = ((), ((ONE, 0, p(2, y=1)), (ONE, 1, p(2, **{word: -n for word, n in square.items()}))))
        check_call(self, True, is_future, rules, (x_form, y_form))
        check_call(self, False, is_future, rules, (x_form, ((), ((ONE, 0, p(2, y=1)),))))
        check_call(self, False, is_future, FIBONACCI, forms_of(EXCHANGE))
        check_call(self, False, is_future, PRODUCT, forms_of(EXCHANGE))
        turn = (p(2, y=1), p(2, x=-1))
        self.assertEqual(why_not(turn)[0], "irrational")
        check_call(self, False, is_future, turn, forms_of(EXCHANGE))

    def test_large_wrong_forms(self):
        rows = [(ONE, (a, b, c)) for a in range(4) for b in range(4) for c in range(4)][:40]
        terms = tuple([((n, 1), 0, polynomial(3, rows)) for n in range(1, 31)])
        rules = (p(3, x3y3z3=1), p(3, x3y3z3=2), p(3, x3y3z3=3))
        forms = tuple([((start,), terms) for start in identity(3)])
        check_call(self, False, is_future, rules, forms)

    def test_errors(self):
        good = forms_of(EXCHANGE)
        bad_forms = [
            None, (), list(good), good[:1], good + good[:1], (good[0], None), (good[0], list(good[1])), 5, True,
            forms_of((p(1, x=1),)), ((good[0]), ((p(2, y=1),), ((ONE, 0, p(2, y=1)),))), "forms",
            (good[0], ((), ((ONE, 9, p(2, y=1)),))), (good[0], ((), ((ONE, 0, p(2, y9=1)),))),
            (good[0], ((), ((ONE, 0, (1, 1)),))),
        ]
        for rules in (EXCHANGE, FIBONACCI, PRODUCT):
            for bad in bad_forms:
                check_error(self, BadValue, {"name": "forms"}, is_future, rules, bad)


if __name__ == "__main__":
    unittest.main()
