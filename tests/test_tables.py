"""Small forms, tables and signs (points 50 to 55 and 60)."""

import unittest
from fractions import Fraction

from helpers import ODD_VALUES, Picker, check_call, check_error, form_value, p, r
from roundknown.errors import BadValue, RoundError
from roundknown.forms import add_forms, next_form, scale_form
from roundknown.tables import is_small, sign_at, stretch_bound, table_of

ONE = (1, 1)
NOTHING = ((), ())
LONG = 10 ** 60 - 1
LAST = 10 ** 40
HILL = ((), ((ONE, 0, (-1, 1)), (ONE, 2, (-1, 1)), ((2, 1), 0, (1, 1))))
FAR = ((), ((ONE, 0, (1, 1)), ((2, 1), 0, (-1000000, 1)), ((2, 1), 1, (1, 1))))


def numeric(*terms):
    return ((), terms)


def sign(number):
    return (number > 0) - (number < 0)


def told_sign(table, n):
    """The sign that a table tells for a round."""
    return [worth for start, worth in table[n % 2] if start <= n][-1]


class SmallTests(unittest.TestCase):
    def test_small(self):
        for good in [NOTHING, HILL, FAR, (((5, 1), (0, 1)), (((-1, 1), 0, (1, 1)),))]:
            check_call(self, True, is_small, good)

    def test_no_forms(self):
        for bad in ODD_VALUES:
            self.assertIs(is_small(bad), bad == ((), ()))
        bad_forms = [
            list(HILL), (HILL[0], list(HILL[1])), (HILL[0], HILL[1][::-1]), (((0, 1),), ()), ((), ((ONE, 0, (0, 1)),)),
            ((), ((ONE, True, ONE),)), ((), ((ONE, 0, (2, 2)),)), ((), ((ONE, 0, p(1, x=1)),)), ((p(1, x=1),), ()),
            ((), ((ONE, -1, ONE),)), ((), (((0, 1), 0, ONE),)),
        ]
        for bad in bad_forms:
            check_call(self, False, is_small, bad)

    def test_first(self):
        check_call(self, True, is_small, (((0, 1),) * 7 + ((1, 1),), ()))
        check_call(self, False, is_small, (((0, 1),) * 8 + ((1, 1),), ()))
        for number in [(LONG, 1), (-LONG, 1), (1, LONG)]:
            check_call(self, True, is_small, ((number,), ()))
        for number in [(LONG + 1, 1), (-LONG - 1, 1), (1, LONG + 1)]:
            check_call(self, False, is_small, ((number,), ()))

    def test_bases(self):
        for good in [(8, 1), (-8, 1), (8, 3), (1, 8), (1, LONG), (-8, LONG)]:
            check_call(self, True, is_small, numeric((good, 0, ONE)))
        for bad in [(9, 1), (-9, 1), (9, 2), (1, LONG + 1)]:
            check_call(self, False, is_small, numeric((bad, 0, ONE)))
        check_call(self, True, is_small, numeric(((1, 2), 0, ONE), ((4, 1), 0, ONE)))
        check_call(self, False, is_small, numeric(((1, 2), 0, ONE), ((5, 1), 0, ONE)))
        check_call(self, True, is_small, numeric(((-4, 3), 0, ONE), ((-1, 2), 0, ONE)))
        check_call(self, False, is_small, numeric(((-5, 3), 0, ONE), ((-1, 2), 0, ONE)))

    def test_powers(self):
        check_call(self, True, is_small, numeric((ONE, 3, ONE)))
        check_call(self, False, is_small, numeric((ONE, 4, ONE)))

    def test_weight(self):
        six = (((-2, 1), 0, ONE), ((-1, 1), 3, ONE), (ONE, 0, ONE), ((2, 1), 1, ONE))
        check_call(self, True, is_small, numeric(*six))
        check_call(self, False, is_small, numeric(*six, ((3, 1), 0, ONE)))
        check_call(self, False, is_small, numeric(*six[:3], ((2, 1), 2, ONE)))
        ones = tuple([((n, 1), 0, ONE) for n in range(1, 8)])
        check_call(self, True, is_small, numeric(*ones[:6]))
        check_call(self, False, is_small, numeric(*ones))

    def test_coefficients(self):
        for good in [(10 ** 6, 1), (-10 ** 6, 1), (10 ** 6, 7), (1, LONG), (-999999, 10 ** 59)]:
            check_call(self, True, is_small, numeric((ONE, 0, good)))
        for bad in [(10 ** 6 + 1, 1), (-10 ** 6 - 1, 1), (10 ** 6 + 1, 7), (1, LONG + 1)]:
            check_call(self, False, is_small, numeric((ONE, 0, bad)))
        check_call(self, True, is_small, numeric((ONE, 0, (1, 2)), (ONE, 1, (500000, 1))))
        check_call(self, False, is_small, numeric((ONE, 0, (1, 2)), (ONE, 1, (500001, 1))))
        check_call(self, True, is_small, numeric((ONE, 0, (1, 6)), (ONE, 1, (-1, 4)), (ONE, 2, (250000, 3))))
        check_call(self, False, is_small, numeric((ONE, 0, (1, 6)), (ONE, 1, (-1, 4)), (ONE, 2, (250001, 3))))
        # First values do not count here.
        check_call(self, True, is_small, (((LONG, 1), (1, 7)), ((ONE, 0, (10 ** 6, 1)),)))


class TableTests(unittest.TestCase):
    def test_examples(self):
        check_call(self, (((0, 0), (2, -1), (6, 1)), ((1, 0), (3, -1), (5, 1))), table_of, HILL)
        check_call(self, (((0, -1), (1000000, 1)), ((1, -1), (1000001, 1))), table_of, FAR)
        check_call(self, (((0, 1),), ((1, 0), (3, -1))), table_of, (((5, 1), (0, 1)), (((-1, 1), 0, (1, 1)),)))

    def test_no_terms(self):
        check_call(self, (((0, 0),), ((1, 0),)), table_of, NOTHING)
        check_call(self, (((0, 1), (2, 0)), ((1, 0),)), table_of, (((1, 9),), ()))
        check_call(self, (((0, 0),), ((1, -1), (3, 0))), table_of, (((0, 1), (-1, 9)), ()))
        eight = (((1, 1), (1, 1), (-1, 1), (0, 1), (1, 1), (-1, 1), (-2, 1), (-3, 1)), ())
        expected = (((0, 1), (2, -1), (4, 1), (6, -1), (8, 0)), ((1, 1), (3, 0), (5, -1), (9, 0)))
        check_call(self, expected, table_of, eight)

    def test_kinds(self):
        check_call(self, (((0, 1),), ((1, -1),)), table_of, numeric(((-2, 1), 0, ONE)))
        check_call(self, (((0, 1),), ((1, 0),)), table_of, numeric(((-2, 1), 0, ONE), ((2, 1), 0, ONE)))
        check_call(self, (((0, 0),), ((1, 1),)), table_of, numeric(((-2, 1), 0, (-1, 1)), ((2, 1), 0, ONE)))
        # In odd rounds the group of 2 is 0, so the base 1 decides there.
        form = numeric(((-2, 1), 0, (-1, 1)), (ONE, 0, (100, 1)), ((2, 1), 0, (-1, 1)))
        check_call(self, (((0, 1), (6, -1)), ((1, 1),)), table_of, form)

    def test_far_stretches(self):
        cubic = numeric((ONE, 2, (-999998, 1)), (ONE, 3, (1, 1)))
        check_call(self, (((0, 0), (2, -1), (999998, 0), (1000000, 1)), ((1, -1), (999999, 1))), table_of, cubic)
        both = numeric(((-1, 1), 0, (-999999, 1)), ((-1, 1), 1, (1, 1)), (ONE, 0, (-999999, 1)), (ONE, 1, (1, 1)))
        check_call(self, (((0, -1), (1000000, 1)), ((1, 0),)), table_of, both)
        # The leading group is 0 in one far round. There the next groups decide.
        for worth in (-1, 0, 1):
            for zero in (300000, 300001):
                terms = [((2, 1), 0, (worth, 1))] if worth else []
                terms += [((3, 1), 0, (-zero, 1)), ((3, 1), 1, (1, 1))]
                table = table_of(numeric((ONE, 0, (5, 1)), *terms))
                told = [told_sign(table, zero + step) for step in (-2, -1, 0, 1, 2)]
                self.assertEqual(told, [-1, -1, worth or 1, 1, 1])
        zero = numeric(((2, 1), 0, (-300001, 1)), ((2, 1), 1, (1, 1)))
        check_call(self, (((0, -1), (300002, 1)), ((1, -1), (300001, 0), (300003, 1))), table_of, zero)

    def test_all_zeros_far_away(self):
        # (n - 300)(n - 302), which is 0 in two even rounds and negative between them.
        pair = numeric((ONE, 0, (90600, 1)), (ONE, 1, (-602, 1)), (ONE, 2, (1, 1)))
        check_call(self, (((0, 1), (300, 0), (304, 1)), ((1, 1), (301, -1), (303, 1))), table_of, pair)
        # (n - 260)(n - 261)(n - 10)
        triple = numeric((ONE, 0, (-678600, 1)), (ONE, 1, (73070, 1)), (ONE, 2, (-531, 1)), (ONE, 3, (1, 1)))
        expected = (((0, -1), (10, 0), (12, 1), (260, 0), (262, 1)), ((1, -1), (11, 1), (261, 0), (263, 1)))
        check_call(self, expected, table_of, triple)
        # (n - 400)(n - 401) leads. Where it is 0, n - 401 decides: in round 400 below 0, in round 401 it is 0, too.
        leading = (((2, 1), 0, (160400, 1)), ((2, 1), 1, (-801, 1)), ((2, 1), 2, ONE))
        near = numeric((ONE, 0, (-401, 1)), (ONE, 1, ONE), *leading)
        expected = (((0, 1), (400, -1), (402, 1)), ((1, 1), (401, 0), (403, 1)))
        check_call(self, expected, table_of, near)
        square = numeric((ONE, 0, (160000, 1)), (ONE, 1, (-800, 1)), (ONE, 2, (1, 1)))
        check_call(self, (((0, 1), (400, 0), (402, 1)), ((1, 1),)), table_of, square)

    def test_against_values(self):
        picker = Picker(12)
        done = 0
        while done < 60:
            form = some_small_form(picker)
            if form is None:
                continue
            done += 1
            table = table_of(form)
            self.check_table(table)
            bound = stretch_bound(form)
            self.assertLessEqual(len(table[0]), bound[0])
            self.assertLessEqual(len(table[1]), bound[1])
            for n in list(range(300)) + [picker.number(300, 3000) for _ in range(5)]:
                expected = sign(form_value(form, n))
                self.assertEqual(told_sign(table, n), expected)
                self.assertEqual(sign_at(form, n), expected)
            for n in [10 ** 7, 10 ** 7 + 1, LAST - 1, LAST]:
                self.assertEqual(sign_at(form, n), told_sign(table, n))

    def check_table(self, table):
        self.assertEqual((type(table), len(table)), (tuple, 2))
        for kind, stretches in enumerate(table):
            self.assertIs(type(stretches), tuple)
            self.assertEqual(stretches[0][0], kind)
            for start, worth in stretches:
                self.assertEqual(start % 2, kind)
                self.assertIn(worth, (-1, 0, 1))
                self.assertIs(type(worth), int)
            for before, after in zip(stretches, stretches[1:]):
                self.assertLess(before[0], after[0])
                self.assertNotEqual(before[1], after[1])

    def test_equal_signs_are_equal_tables(self):
        for form, other in [(HILL, scale_form(0, HILL, (7, 3))), (FAR, scale_form(0, FAR, (1, 999)))]:
            self.assertNotEqual(form, other)
            self.assertEqual(table_of(form), table_of(other))
        squares = numeric((ONE, 2, (3, 1)))
        self.assertEqual(table_of(squares), (((0, 0), (2, 1)), ((1, 1),)))
        self.assertEqual(table_of((((0, 1), (7, 2)), ())), (((0, 0),), ((1, 1), (3, 0))))
        by_steps = next_form(0, (2, 1), (0, 1), numeric((ONE, 0, ONE)))
        by_sum = add_forms(0, numeric(((2, 1), 0, ONE)), numeric((ONE, 0, (-1, 1))))
        self.assertEqual(table_of(by_steps), table_of(by_sum))
        self.assertEqual(table_of(by_sum), (((0, 0), (2, 1)), ((1, 1),)))


class SignTests(unittest.TestCase):
    def test_signs(self):
        for n, expected in enumerate([0, 0, -1, -1, -1, 1, 1]):
            check_call(self, expected, sign_at, HILL, n)
        check_call(self, -1, sign_at, FAR, 999999)
        check_call(self, 1, sign_at, FAR, 1000000)
        check_call(self, 1, sign_at, (((5, 1), (0, 1)), (((-1, 1), 0, (1, 1)),)), 0)
        check_call(self, 0, sign_at, (((5, 1), (0, 1)), (((-1, 1), 0, (1, 1)),)), 1)

    def test_last_round(self):
        check_call(self, 1, sign_at, HILL, LAST)
        check_call(self, 1, sign_at, numeric(((-8, 1), 3, ONE)), LAST)
        check_call(self, -1, sign_at, numeric(((-8, 1), 3, ONE)), LAST - 1)
        check_call(self, 0, sign_at, NOTHING, LAST)
        check_call(self, 0, sign_at, (((1, 1),), ()), LAST)
        check_call(self, -1, sign_at, numeric(((1, 3), 0, (-1, 1))), LAST)

    def test_near_the_border_of_point_54(self):
        # 8 to the n against 10 to the 6 times n cubed times 7 to the n: the smaller base leads until round 200.
        close = numeric(((7, 1), 3, (-1000000, 1)), ((8, 1), 0, ONE))
        for n in range(230, 280):
            expected = sign(8 ** n - 1000000 * n ** 3 * 7 ** n)
            self.assertEqual(sign_at(close, n), expected)
            self.assertEqual(told_sign(table_of(close), n), expected)
        self.assertIn(-1, [sign_at(close, n) for n in range(200, 256)])

    def test_errors(self):
        bad_forms = [None, (), list(HILL), numeric(((9, 1), 0, ONE)), numeric((ONE, 4, ONE)), (((0, 1),), ()), True, 3]
        bad_forms += [numeric((ONE, 0, (10 ** 6 + 1, 1))), numeric(*[((n, 1), 0, ONE) for n in range(1, 8)])]
        for bad in bad_forms:
            check_error(self, BadValue, {"name": "form"}, table_of, bad)
            check_error(self, BadValue, {"name": "form"}, stretch_bound, bad)
            check_error(self, BadValue, {"name": "form"}, sign_at, bad, 0)
            check_error(self, BadValue, {"name": "form"}, sign_at, bad, -1)
            check_call(self, False, is_small, bad)
        for bad in [-1, LAST + 1, True, False, None, "1", (1,), 1.0]:
            check_error(self, BadValue, {"name": "n"}, sign_at, HILL, bad)


class BoundTests(unittest.TestCase):
    def test_bounds(self):
        check_call(self, (7, 7), stretch_bound, HILL)
        check_call(self, (5, 5), stretch_bound, FAR)
        check_call(self, (1, 1), stretch_bound, NOTHING)
        check_call(self, (2, 1), stretch_bound, (((1, 1),), ()))
        check_call(self, (2, 2), stretch_bound, (((1, 1), (1, 1)), ()))
        check_call(self, (3, 2), stretch_bound, (((1, 1),) * 3, ()))
        check_call(self, (5, 5), stretch_bound, (((1, 1),) * 8, ()))
        check_call(self, (1, 1), stretch_bound, numeric((ONE, 0, ONE)))
        check_call(self, (2, 2), stretch_bound, (((5, 1), (0, 1)), (((-1, 1), 0, (1, 1)),)))
        check_call(self, (4, 3), stretch_bound, (((9, 1),), (((-1, 1), 0, ONE), (ONE, 1, ONE))))
        six = (((-2, 1), 0, ONE), ((-1, 1), 3, ONE), (ONE, 0, ONE), ((2, 1), 1, ONE))
        check_call(self, (11, 11), stretch_bound, numeric(*six))


def some_small_form(picker):
    """A small form of random terms and first values, or None."""
    bottom = (1, 1, 2, 3)[picker.number(0, 3)]
    form = NOTHING
    try:
        for _ in range(picker.number(0, 4)):
            size = (3, 60, 100000)[picker.number(0, 2)]
            term = (picker.nonzero(8, 1)[0], picker.number(0, 3), picker.nonzero(size, 3))
            form = add_forms(0, form, numeric((r(term[0], bottom), term[1], term[2])))
        if picker.number(0, 2) == 0:
            first = tuple([picker.rational(3, 1) for _ in range(picker.number(1, 8))])
            moved = tuple([r(Fraction(*first[n]) - form_value(form, n)) for n in range(len(first))])
            while moved and moved[-1] == (0, 1):
                moved = moved[:-1]
            form = add_forms(0, form, (moved, ()))
    except RoundError:
        return None
    return form if is_small(form) else None


if __name__ == "__main__":
    unittest.main()
