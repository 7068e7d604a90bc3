"""Ladders and their judge (points 56 to 60)."""

import copy
import unittest
from fractions import Fraction

from helpers import ODD_VALUES, Picker, check_call, check_error, form_value, r
from roundknown.errors import BadValue, RoundError
from roundknown.forms import add_forms
from roundknown.ladders import judge_ladder, ladder_of
from roundknown.tables import is_small, table_of

ONE = (1, 1)
NOTHING = ((), ())
HILL = ((), ((ONE, 0, (-1, 1)), (ONE, 2, (-1, 1)), ((2, 1), 0, (1, 1))))
HILL_LADDER = [
    ("even", ((0, -1), (2, 1))), ("even", ((0, 1),)), ("even", ((0, 1),)),
    ("odd", ((1, -1), (3, 1))), ("odd", ((1, 1),)), ("odd", ((1, 1),)),
]
# f1 is 3000002 - 3n.
LATE = ((), ((ONE, 0, (-1000000, 1)), (ONE, 1, ONE), ((2, 1), 0, ONE)))


def numeric(*terms):
    return ((), terms)


def sign(number):
    return (number > 0) - (number < 0)


def factors_of(form, kind):
    """The numbers M of the steps from each level function to the next, by point 56."""
    groups = {}
    for base, power, coefficient in form[1]:
        number = Fraction(*coefficient)
        if base[0] < 0 and kind == 1:
            number = -number
        group = groups.setdefault(abs(Fraction(*base)), {})
        group[power] = group.get(power, 0) + number
    found = []
    for size in sorted(groups, reverse=True):
        powers = [power for power, number in groups[size].items() if number != 0]
        found.extend([size] * (max(powers) + 1 if powers else 0))
    return found


def level_value(form, factors, n):
    """The value in round n of the level function behind the steps with these factors."""
    values = [form_value(form, n + 2 * place) for place in range(len(factors) + 1)]
    for size in factors:
        values = [after - size * size * now for now, after in zip(values, values[1:])]
    return values[0]


def told_sign(rung, n):
    return [worth for start, worth in rung if start <= n][-1]


def begin_of(form, kind):
    return min(n for n in range(kind, 12, 2) if n >= len(form[0]))


def some_small_form(picker):
    """A small form of random terms and first values, or None."""
    bottom = (1, 1, 2, 3)[picker.number(0, 3)]
    form = NOTHING
    try:
        for _ in range(picker.number(0, 5)):
            size = (3, 60, 100000)[picker.number(0, 2)]
            term = (picker.nonzero(8, 1)[0], (0, 0, 1, 2, 3)[picker.number(0, 4)], picker.nonzero(size, 3))
            form = add_forms(0, form, numeric((r(term[0], bottom), term[1], term[2])))
        if picker.number(0, 2) == 0:
            first = tuple([picker.rational(3, 1) for _ in range(picker.number(1, 8))])
            moved = tuple([r(Fraction(*first[n]) - form_value(form, n)) for n in range(len(first))])
            while moved and moved[-1] == (0, 1):
                moved = moved[:-1]
            form = add_forms(0, form, (moved, ()))
    except RoundError:
        return None
    return form if is_small(form) else None


class LadderTests(unittest.TestCase):
    def check_ladder(self, form, rounds):
        """Check the ladder against the values of the level functions in these rounds."""
        ladder = ladder_of(form)
        self.assertIs(type(ladder), list)
        expected = []
        for kind, word in enumerate(("even", "odd")):
            factors = factors_of(form, kind)
            expected += [(word, kind, factors[:place]) for place in range(1, len(factors))]
        self.assertEqual([line[0] for line in ladder], [word for word, kind, factors in expected])
        for line, (word, kind, factors) in zip(ladder, expected):
            self.assertEqual((type(line), len(line), type(line[1])), (tuple, 2, tuple))
            self.check_rung(line[1], begin_of(form, kind))
            for n in rounds:
                m = begin_of(form, kind) + 2 * n
                self.assertEqual(told_sign(line[1], m), sign(level_value(form, factors, m)), (form, line, m))
        table = table_of(form)
        self.assertIs(judge_ladder(form, table, ladder), True)
        return table, ladder

    def check_rung(self, rung, begin):
        self.assertEqual(rung[0][0], begin)
        for start, worth in rung:
            self.assertEqual((start - begin) % 2, 0)
            self.assertEqual((type(start), type(worth)), (int, int))
            self.assertIn(worth, (-1, 0, 1))
        for before, after in zip(rung, rung[1:]):
            self.assertLess(before[0], after[0])
            self.assertNotEqual(before[1], after[1])

    def test_example(self):
        check_call(self, HILL_LADDER, ladder_of, HILL)
        self.check_ladder(HILL, range(30))
        # The values of the example behind point 60.
        self.assertEqual([form_value(HILL, n) for n in range(7)], [0, 0, -1, -2, -1, 6, 27])
        for n in range(8):
            self.assertEqual(level_value(HILL, factors_of(HILL, 0)[:1], n), 3 * n * n - 4 * n - 1)
            self.assertEqual(level_value(HILL, factors_of(HILL, 0)[:2], n), 12 * n + 4)
            self.assertEqual(level_value(HILL, factors_of(HILL, 0)[:3], n), 24)
            self.assertEqual(level_value(HILL, factors_of(HILL, 0)[:4], n), 0)

    def test_no_lines(self):
        for form in [NOTHING, (((5, 1),), ()), (((0, 1),) * 7 + (ONE,), ())]:
            check_call(self, [], ladder_of, form)
            check_call(self, True, judge_ladder, form, table_of(form), [])
        # One group of degree 0: f1 is 0 already.
        check_call(self, [], ladder_of, numeric(((-3, 1), 0, (2, 1))))
        check_call(self, True, judge_ladder, numeric(((-3, 1), 0, (2, 1))), (((0, 1),), ((1, -1),)), [])

    def test_zero_in_one_kind(self):
        even = numeric(((-2, 1), 0, ONE), ((2, 1), 0, ONE))
        check_call(self, [], ladder_of, even)
        more = numeric(((-2, 1), 1, ONE), ((2, 1), 1, ONE))
        check_call(self, [("even", ((0, 1),))], ladder_of, more)
        odd = numeric(((-2, 1), 1, (-1, 1)), ((2, 1), 1, ONE))
        check_call(self, [("odd", ((1, 1),))], ladder_of, odd)
        # In even rounds n and 3 times 2 to the n, in odd rounds only n.
        half = numeric(((-2, 1), 0, (3, 2)), (ONE, 1, ONE), ((2, 1), 0, (3, 2)))
        table, ladder = self.check_ladder(half, range(20))
        self.assertEqual([line[0] for line in ladder], ["even", "even", "odd"])
        for form in [even, more, odd, half]:
            self.check_ladder(form, range(20))

    def test_first_start(self):
        for count in range(9):
            form = (((7, 1),) * count, ((ONE, 0, (-3, 1)), (ONE, 1, ONE)))
            begin = (count + count % 2, count + 1 - count % 2)
            expected = [("even", ((begin[0], 1),)), ("odd", ((begin[1], 1),))]
            check_call(self, expected, ladder_of, form)
            self.check_ladder(form, range(10))

    def test_late_changes(self):
        lines = [("even", ((0, 1), (1000002, -1))), ("even", ((0, -1),))]
        lines += [("odd", ((1, 1), (1000001, -1))), ("odd", ((1, -1),))]
        check_call(self, lines, ladder_of, LATE)
        self.check_ladder(LATE, range(10))
        # f1 is 0 in round 1000002: it is 3000006 - 3n.
        zero = numeric((ONE, 0, r(-3000004, 3)), (ONE, 1, ONE), ((2, 1), 0, ONE))
        self.assertFalse(is_small(zero))
        zero = numeric((ONE, 0, r(-300004, 3)), (ONE, 1, ONE), ((2, 1), 0, ONE))
        self.assertEqual(ladder_of(zero)[0], ("even", ((0, 1), (100002, 0), (100004, -1))))
        self.assertEqual(ladder_of(zero)[2], ("odd", ((1, 1), (100003, -1))))
        self.check_ladder(zero, range(10))
        cubic = numeric((ONE, 2, (-999998, 1)), (ONE, 3, ONE), ((7, 1), 0, (-1, 1)), ((8, 1), 0, ONE))
        table, ladder = self.check_ladder(cubic, range(150))
        self.assertEqual([line[0] for line in ladder], ["even"] * 5 + ["odd"] * 5)

    def test_greatest_forms(self):
        forms = [
            numeric(*[((n, 1), 0, (worth, 1)) for n, worth in zip(range(3, 9), (999999, -10 ** 6, 7, -9, 1, -1))]),
            numeric(((-8, 1), 0, ONE), ((-7, 1), 3, (-10 ** 6, 1)), ((7, 1), 3, (10 ** 6, 1)), ((8, 1), 1, (-1, 1))),
            numeric(((7, 1), 0, (10 ** 6, 1)), ((7, 1), 3, (-10 ** 6, 1)), ((8, 1), 1, ONE)),
            numeric(((-8, 7), 3, (1, 10 ** 6)), ((-1, 7), 1, (-1, 10 ** 6)), ((1, 7), 0, (1, 10 ** 6))),
            numeric((ONE, 0, (-999999, 1)), (ONE, 3, ONE), ((2, 1), 1, (-10 ** 6, 1))),
        ]
        for form in forms:
            self.assertTrue(is_small(form), form)
            self.check_ladder(form, list(range(0, 700, 7)) + list(range(40)))

    def test_against_values(self):
        picker = Picker(61)
        done = 0
        while done < 80:
            form = some_small_form(picker)
            if form is not None:
                done += 1
                self.check_ladder(form, list(range(40)) + [picker.number(40, 600) for _ in range(4)])


class JudgeTests(unittest.TestCase):
    def check_false(self, form, table, lines):
        before = copy.deepcopy((form, table, lines))
        self.assertIs(judge_ladder(form, table, lines), False, (table, lines))
        self.assertEqual(repr((form, table, lines)), repr(before))

    def nearby_tuples(self, stretches):
        """Tuples of stretches that differ from the given ones in one respect."""
        for place, (start, worth) in enumerate(stretches):
            around = (stretches[:place], stretches[place + 1:])
            for other in [(start, other) for other in (-1, 0, 1) if other != worth]:
                yield around[0] + (other,) + around[1]
            for step in (-2, -1, 1, 2, 10 ** 40, 10 ** 400):
                yield around[0] + ((start + step, worth),) + around[1]
            for odd in [(start, True), (start, str(worth)), (str(start), worth), [start, worth], (start, worth, 0),
                        (start,), (float(start), worth), (start, float(worth)), (start, None), None, 7]:
                yield around[0] + (odd,) + around[1]
            yield around[0] + around[1]
            yield around[0] + ((start, worth), (start, worth)) + around[1]
            yield around[0] + ((start, worth), (start + 2, worth)) + around[1]
        last = stretches[-1]
        for far in (2, 1000, 10 ** 6, 10 ** 40, 10 ** 1000):
            for worth in (-1, 0, 1):
                yield stretches + ((last[0] + far, worth),)
        yield list(stretches)
        yield stretches[0]
        yield None
        yield True

    def test_near_claims(self):
        forms = [HILL, LATE, (((5, 1), (0, 1)), (((-1, 1), 0, ONE), (ONE, 1, (-4, 1)))),
                 numeric(((-2, 1), 1, (-1, 1)), ((2, 1), 1, ONE), (ONE, 0, (-9, 1)))]
        forms[3] = ((), tuple(sorted(forms[3][1])))
        for form in forms:
            table, lines = table_of(form), ladder_of(form)
            self.assertIs(judge_ladder(form, table, lines), True)
            self.assertIs(judge_ladder(form, copy.deepcopy(table), copy.deepcopy(lines)), True)
            for kind in (0, 1):
                for other in self.nearby_tuples(table[kind]):
                    claim = (other, table[1]) if kind == 0 else (table[0], other)
                    if repr(claim) != repr(table):
                        self.check_false(form, claim, lines)
            for place, (word, rung) in enumerate(lines):
                for other in self.nearby_tuples(rung):
                    if repr(other) != repr(rung):
                        self.check_false(form, table, lines[:place] + [(word, other)] + lines[place + 1:])

    def test_lines(self):
        table = table_of(HILL)
        lines = HILL_LADDER
        self.assertIs(judge_ladder(HILL, table, lines), True)
        for place, line in enumerate(lines):
            self.check_false(HILL, table, lines[:place] + lines[place + 1:])
            self.check_false(HILL, table, lines[:place] + [line] + lines[place:])
            other = "odd" if line[0] == "even" else "even"
            for odd in [(other, line[1]), list(line), line + (0,), line[:1], (line[1], line[0]), None, 5, "even", (),
                        (0, line[1]), (None, line[1]), (b"even", line[1]), ("Even", line[1]), ("", line[1])]:
                self.check_false(HILL, table, lines[:place] + [odd] + lines[place + 1:])
            for place_too in range(place + 1, len(lines)):
                swapped = list(lines)
                swapped[place], swapped[place_too] = lines[place_too], lines[place]
                if swapped != lines:
                    self.check_false(HILL, table, swapped)
        self.check_false(HILL, table, lines[3:] + lines[:3])
        self.check_false(HILL, table, tuple(lines))
        self.check_false(HILL, table, lines + [("odd", ((1, 0),))])
        self.check_false(HILL, table, [])
        self.check_false(HILL, table, lines[:3])
        self.check_false(HILL, (table[1], table[0]), lines)
        self.check_false(HILL, list(table), lines)
        self.check_false(HILL, table[:1], lines)
        self.check_false(HILL, table + ((),), lines)
        self.check_false(HILL, table, [("even", ((0, 0),))] + lines)
        self.check_false(NOTHING, (((0, 0),), ((1, 0),)), [("even", ((0, 0),))])

    def test_any_value(self):
        for odd in ODD_VALUES:
            self.check_false(HILL, odd, HILL_LADDER)
            self.check_false(HILL, table_of(HILL), odd)
            self.check_false(HILL, (odd, odd), HILL_LADDER)
            self.check_false(HILL, table_of(HILL), [odd] * 6)
            self.check_false(HILL, table_of(HILL), [("even", odd)] * 6)
            self.check_false(HILL, table_of(HILL), [("even", (odd,))] * 6)
            self.check_false(HILL, table_of(HILL), [("even", ((0, odd),))] * 6)
            self.check_false(HILL, odd, odd)

    def test_first_values(self):
        form = (((5, 1), (0, 1), (-2, 1)), ((ONE, 0, (-9, 1)), (ONE, 1, ONE)))
        table = (((0, 1), (2, -1), (10, 1)), ((1, 0), (3, -1), (9, 0), (11, 1)))
        self.assertEqual(table_of(form), table)
        lines = [("even", ((4, 1),)), ("odd", ((3, 1),))]
        self.assertIs(judge_ladder(form, table, lines), True)
        self.check_false(form, (((0, 1), (4, -1), (10, 1)), table[1]), lines)
        self.check_false(form, (((0, -1), (10, 1)), table[1]), lines)
        self.check_false(form, (table[0], ((1, -1), (9, 0), (11, 1))), lines)
        self.check_false(form, table, [("even", ((2, 1),)), ("odd", ((3, 1),))])
        self.check_false(form, table, [("even", ((4, 1),)), ("odd", ((1, 1),))])

    def test_last_sign(self):
        # A claim that is true in every round that is looked at, but not far away.
        form = numeric((ONE, 0, (-10 ** 6, 1)), (ONE, 1, ONE))
        self.check_false(form, (((0, -1),), ((1, -1),)), ladder_of(form))
        self.check_false(form, (((0, -1), (10 ** 40, 1)), ((1, -1), (1000001, 1))), ladder_of(form))
        self.check_false(form, (((0, -1), (10 ** 6, 0)), ((1, -1), (1000001, 1))), ladder_of(form))
        true = (((0, -1), (10 ** 6, 0), (10 ** 6 + 2, 1)), ((1, -1), (1000001, 1)))
        self.assertIs(judge_ladder(form, true, ladder_of(form)), True)

    def test_far_and_long_claims(self):
        table, lines = table_of(HILL), ladder_of(HILL)
        for far in (10 ** 40, 10 ** 400, 10 ** 4000):
            self.check_false(HILL, (table[0] + ((far, 0),), table[1]), lines)
            self.check_false(HILL, (table[0] + ((far, -1), (far + 2, 1)), table[1]), lines)
            self.check_false(HILL, table, [("even", lines[0][1] + ((far, -1), (far + 2, 1)))] + lines[1:])
        many = tuple([(2 * place, (-1, 1)[place % 2]) for place in range(20000)])
        self.check_false(HILL, (many, table[1]), lines)
        self.check_false(HILL, table, [("even", many)] + lines[1:])
        self.check_false(HILL, table, lines * 5000)

    def test_errors(self):
        bad_forms = [None, (), list(HILL), numeric(((9, 1), 0, ONE)), numeric((ONE, 4, ONE)), (((0, 1),), ()), True, 3]
        for bad in bad_forms:
            check_error(self, BadValue, {"name": "form"}, ladder_of, bad)
            check_error(self, BadValue, {"name": "form"}, judge_ladder, bad, table_of(HILL), HILL_LADDER)
            check_error(self, BadValue, {"name": "form"}, judge_ladder, bad, None, None)


if __name__ == "__main__":
    unittest.main()
