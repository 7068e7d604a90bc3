"""Systems of linear conditions (points 95 to 98 and 102)."""

import unittest
from fractions import Fraction

from helpers import ODD_VALUES, Picker, check_call, check_error, r
from roundknown.errors import BadValue
from roundknown.systems import accepts_system, holds_at, solve_system, value_at

KINDS = ("eq", "le", "lt")
EXAMPLE = [("eq", ((-2, 1), (1, 1), (1, 1))), ("le", ((-1, 1), (1, 1), (0, 1))), ("lt", ((-1, 1), (0, 1), (1, 1)))]


def row(kind, *numbers):
    """A row with integers or pairs as numbers."""
    return (kind, tuple([r(*number) if isinstance(number, tuple) else r(number) for number in numbers]))


def fractions(numbers):
    return [Fraction(*number) for number in numbers]


def value_of(expression, numbers):
    c = fractions(expression)
    return c[0] + sum((a * b for a, b in zip(c[1:], fractions(numbers))), Fraction(0))


def is_right(v, rows, answer):
    """Whether an answer with a tuple of rationals is right, by fractions."""
    word, numbers = answer
    if word == "solution":
        found = [(kind, value_of(expression, numbers)) for kind, expression in rows]
        return len(numbers) == v and all({"eq": w == 0, "le": w <= 0, "lt": w < 0}[kind] for kind, w in found)
    if word != "multipliers" or len(numbers) != len(rows):
        return False
    weights = fractions(numbers)
    if any(kind != "eq" and weight < 0 for (kind, expression), weight in zip(rows, weights)):
        return False
    totals = [sum((weight * Fraction(*expression[i]) for (kind, expression), weight in zip(rows, weights)), Fraction(0))
              for i in range(v + 1)]
    strict = any(kind == "lt" and weight > 0 for (kind, expression), weight in zip(rows, weights))
    return not any(totals[1:]) and (totals[0] > 0 or (totals[0] == 0 and strict))


class ValueTests(unittest.TestCase):
    def test_values(self):
        check_call(self, (5, 6), value_at, ((1, 2), (1, 3)), ((1, 1),))
        check_call(self, (7, 1), value_at, ((7, 1),), ())
        check_call(self, (0, 1), value_at, ((-2, 1), (1, 1), (1, 1)), ((1, 2), (3, 2)))
        picker = Picker(95)
        for _ in range(100):
            k = picker.number(0, 5)
            expression = tuple([picker.rational(99, 30) for _ in range(k + 1)])
            numbers = tuple([picker.rational(10 ** 30, 99) for _ in range(k)])
            check_call(self, r(value_of(expression, numbers)), value_at, expression, numbers)

    def test_rows(self):
        for number, told in [((-1, 10 ** 50), (False, True, True)), ((0, 1), (True, True, False)),
                             ((1, 10 ** 50), (False, False, False))]:
            for kind, expected in zip(KINDS, told):
                check_call(self, expected, holds_at, (kind, ((0, 1), (1, 1))), (number,))
                check_call(self, expected, holds_at, (kind, ((1, 2), (1, 1), (3, 1))), (number, (-1, 6)))
                check_call(self, expected, holds_at, (kind, (number,)), ())


class SolveTests(unittest.TestCase):
    def check_solved(self, v, rows, word=None):
        found = solve_system(v, rows)
        self.assertEqual((type(found), len(found), type(found[1])), (tuple, 2, tuple))
        self.assertIn(found[0], ("solution", "multipliers"))
        self.assertEqual(len(found[1]), v if found[0] == "solution" else len(rows))
        self.assertTrue(is_right(v, rows, found), (rows, found))
        self.assertIs(accepts_system(v, rows, found), True)
        self.assertEqual(solve_system(v, list(rows)), found)
        if word is not None:
            self.assertEqual(found[0], word, rows)
        return found

    def test_example(self):
        check_call(self, "multipliers", lambda *arguments: solve_system(*arguments)[0], 2, EXAMPLE)
        self.check_solved(2, EXAMPLE, "multipliers")
        self.check_solved(2, EXAMPLE[:2], "solution")

    def test_no_rows(self):
        for v in range(1, 6):
            self.check_solved(v, [], "solution")

    def test_one_row(self):
        for v in range(1, 6):
            rest = (0,) * (v - 1)
            for kind in KINDS:
                self.check_solved(v, [row(kind, 5, 1, *rest)], "solution")
                self.check_solved(v, [row(kind, 5, *rest, -1)], "solution")
                self.check_solved(v, [row(kind, 1, 0, *rest)], "multipliers")
                self.check_solved(v, [row(kind, 0, 0, *rest)], "multipliers" if kind == "lt" else "solution")
                self.check_solved(v, [row(kind, -1, 0, *rest)], "multipliers" if kind == "eq" else "solution")

    def test_only_strict_rows_are_in_the_way(self):
        # x at least 0 and at most 0: a single point, unless one of the rows is strict.
        for first in KINDS:
            for second in KINDS:
                word = "multipliers" if "lt" in (first, second) else "solution"
                self.check_solved(1, [row(first, 0, 1), row(second, 0, -1)], word)
                word = "multipliers" if first == second == "eq" else "solution"
                self.check_solved(1, [row(first, -1, 1), row(second, 0, -1)], word)
        self.check_solved(2, [row("lt", 0, 1, -1), row("lt", 0, -1, 1)], "multipliers")
        self.check_solved(2, [row("lt", 0, 1, -1), row("le", 0, -1, 1)], "multipliers")
        self.check_solved(2, [row("le", 0, 1, -1), row("le", 0, -1, 1)], "solution")
        # A strict row that has nothing to do with the others.
        rows = [row("le", 0, 1, 0), row("le", 0, -1, 0), row("lt", 0, 0, 1)]
        self.assertEqual(self.check_solved(2, rows, "solution")[1][0], (0, 1))

    def test_single_point(self):
        rows = [row("eq", -2, (7, 3), 0, 1), row("le", (5, 2), 0, 1, 0), row("le", (-5, 2), 0, -1, 0),
                row("le", 0, 0, 0, 1), row("le", 0, 0, 0, -1)]
        self.assertEqual(self.check_solved(3, rows, "solution")[1], ((6, 7), (-5, 2), (0, 1)))
        self.check_solved(3, rows + [row("lt", 0, 0, 0, 1)], "multipliers")
        equations = [row("eq", -6, 1, 1, 1), row("eq", -1, 1, -1, 0), row("eq", 2, 0, 1, -1)]
        self.assertEqual(self.check_solved(3, equations, "solution")[1], ((2, 1), (1, 1), (3, 1)))
        self.check_solved(3, equations + [row("le", -2, 1, 0, 0)], "solution")
        self.check_solved(3, equations + [row("lt", -2, 1, 0, 0)], "multipliers")

    def test_without_bounds(self):
        self.check_solved(2, [row("lt", 999, -1, 0), row("lt", 999, 0, -1)], "solution")
        self.check_solved(2, [row("lt", 999, -1, 1), row("lt", 999, 0, -1), row("le", 0, -1, -1)], "solution")
        self.check_solved(5, [row("lt", 0, 1, -1, 0, 0, 0), row("lt", 0, 0, 1, -1, 0, 0), row("lt", 0, 0, 0, 1, -1, 0),
                              row("lt", 0, 0, 0, 0, 1, -1)], "solution")
        self.check_solved(5, [row("lt", 0, 1, -1, 0, 0, 0), row("lt", 0, 0, 1, -1, 0, 0), row("lt", 0, 0, 0, 1, -1, 0),
                              row("lt", 0, 0, 0, 0, 1, -1), row("le", 0, -1, 0, 0, 0, 1)], "multipliers")

    def test_greatest_numbers(self):
        rows = [row(KINDS[place % 3], *[((-1) ** (place * i) * (999 - place * i), 999 - i - place) for i in range(6)])
                for place in range(14)]
        self.check_solved(5, rows)
        for count in range(14):
            self.check_solved(5, rows[:count])
        narrow = [row("lt", (998, 999), -1), row("lt", (-999, 998), 1)]
        self.check_solved(1, narrow, "solution")

    def test_many_systems(self):
        picker = Picker(98)
        words = []
        for _ in range(700):
            v, count, size = picker.number(1, 5), picker.number(0, 14), (1, 2, 3, 999)[picker.number(0, 3)]
            bottom = (1, 1, 4, 999)[picker.number(0, 3)]
            kinds = KINDS if picker.number(0, 1) else ("le", "lt", "lt")
            rows = [(kinds[picker.number(0, 2)], tuple([picker.rational(size, bottom) for _ in range(v + 1)]))
                    for _ in range(count)]
            words.append(self.check_solved(v, rows)[0])
        self.assertGreater(words.count("solution"), 150)
        self.assertGreater(words.count("multipliers"), 150)

    def test_systems_around_a_point(self):
        """Systems that are made around a solution, so that many rows are tight there."""
        picker = Picker(97)
        for _ in range(200):
            v = picker.number(1, 5)
            point = tuple([picker.rational(5, 3) for _ in range(v)])
            rows = []
            for _ in range(picker.number(1, 14)):
                factors = [picker.rational(3, 2) for _ in range(v)]
                gap = picker.number(0, 2)
                kind = KINDS[picker.number(0, 2)] if gap == 0 else ("le", "lt")[picker.number(0, 1)]
                if kind == "lt" and gap == 0:
                    kind = "le"
                total = -value_of(((0, 1),) + tuple(factors), point) - gap
                rows.append((kind, (r(total),) + tuple(factors)))
            if all(abs(number[0]) < 1000 and number[1] < 1000 for kind, expression in rows for number in expression):
                self.check_solved(v, rows, "solution")
                # Denying a tight row that all the others force makes the system unsolvable, or it stays solvable.
                kind, expression = rows[0]
                self.check_solved(v, rows[:13] + [("lt", tuple([(-n, d) for n, d in expression]))])


class AcceptTests(unittest.TestCase):
    def test_example(self):
        check_call(self, True, accepts_system, 2, EXAMPLE, ("multipliers", ((-2, 1), (2, 1), (2, 1))))
        check_call(self, False, accepts_system, 2, EXAMPLE, ("multipliers", ((-1, 1), (1, 1), (0, 1))))
        check_call(self, True, accepts_system, 2, EXAMPLE[:2], ("solution", ((1, 1), (1, 1))))

    def test_solutions(self):
        rows = EXAMPLE[:2]
        for good in [((1, 1), (1, 1)), ((-8, 1), (10, 1)), ((-10 ** 80, 1), (10 ** 80 + 2, 1)), ((1, 3), (5, 3))]:
            check_call(self, True, accepts_system, 2, rows, ("solution", good))
        for bad in [((1, 1), (2, 1)), ((2, 1), (0, 1)), ((1, 1),), ((1, 1), (1, 1), (1, 1)), (), ((2, 2), (1, 1)),
                    ((1, 1), None), (1, 1), ((1, 1), (True, 1)), ((1, 1), [1, 1]), ((1, 1), (1, 0)),
                    ((-1, -1), (1, 1))]:
            check_call(self, False, accepts_system, 2, rows, ("solution", bad))
        # Each row has to hold.
        for kind, numbers in [("eq", (0, 1)), ("le", (0, 1)), ("lt", (-1, 10 ** 100))]:
            check_call(self, True, accepts_system, 1, [row(kind, 0, 1)], ("solution", (r(*numbers),)))
        for kind, numbers in [("eq", (1, 10 ** 100)), ("eq", (-1, 10 ** 100)), ("le", (1, 10 ** 100)), ("lt", (0, 1))]:
            check_call(self, False, accepts_system, 1, [row(kind, 0, 1)], ("solution", (r(*numbers),)))
        for v in range(1, 6):
            check_call(self, True, accepts_system, v, [], ("solution", ((7, 10 ** 50),) * v))
            check_call(self, False, accepts_system, v, [], ("solution", ((7, 10 ** 50),) * (v + 1)))
            check_call(self, False, accepts_system, v, [], ("multipliers", ()))
            check_call(self, False, accepts_system, v, [], ("multipliers", ((0, 1),) * v))

    def test_multipliers(self):
        # Totals of the constants: 0 with the strict row, greater than 0, below 0.
        rows = [row("eq", 0, 1), row("lt", 0, 1), row("le", 1, -1), row("le", -3, -1)]
        for good in [(0, 1, 1, 0), (1, 0, 1, 0), (0, (3, 2), (3, 2), 0), (2, 1, 3, 0), (3, 1, 3, 1),
                     (10 ** 90, 0, 10 ** 90, 0)]:
            numbers = tuple([r(*n) if isinstance(n, tuple) else r(n) for n in good])
            self.assertTrue(is_right(1, rows, ("multipliers", numbers)))
            check_call(self, True, accepts_system, 1, rows, ("multipliers", numbers))
        bad_numbers = [
            (0, 0, 0, 0), (-1, 0, -1, 0), (0, -1, -1, 0), (1, 0, 2, -1), (4, 0, 3, 1), (1, 0, 0, 1), (1, 1, 1, 0),
            (0, 1, 0, 0), (0, 0, 1, 0),
        ]
        for bad in bad_numbers:
            numbers = tuple([r(n) for n in bad])
            self.assertFalse(is_right(1, rows, ("multipliers", numbers)))
            check_call(self, False, accepts_system, 1, rows, ("multipliers", numbers))
        good = ((1, 1), (0, 1), (1, 1), (0, 1))
        self.assertIs(accepts_system(1, rows, ("multipliers", good)), True)
        for bad in [good[:3], good + ((0, 1),), (), good[:3] + ((0, 2),), good[:3] + (0,), good[:3] + (None,),
                    good[:3] + ([0, 1],), good[:3] + ((False, 1),), good[:3] + ((0, 1, 1),)]:
            check_call(self, False, accepts_system, 1, rows, ("multipliers", bad))

    def test_signs_of_multipliers(self):
        for kind, told in [("eq", True), ("le", False), ("lt", False)]:
            rows = [row(kind, -1, 0, 0)]
            check_call(self, told, accepts_system, 2, rows, ("multipliers", ((-1, 1),)))
            check_call(self, False, accepts_system, 2, rows, ("multipliers", ((1, 1),)))
        # A total of constants that is 0 needs a strict row with a multiplier greater than 0.
        for first, second, told in [("eq", "eq", False), ("le", "eq", False), ("lt", "eq", True), ("le", "le", False),
                                    ("le", "lt", True), ("lt", "lt", True)]:
            rows = [row(first, 0, 1), row(second, 0, -1), row("lt", -1, 0)]
            check_call(self, told, accepts_system, 1, rows, ("multipliers", ((1, 1), (1, 1), (0, 1))))
            check_call(self, False, accepts_system, 1, rows, ("multipliers", ((0, 1), (0, 1), (0, 1))))
            check_call(self, False, accepts_system, 1, rows, ("multipliers", ((1, 1), (1, 1), (1, 1))))
        # A multiplier of an "eq" row does not make a total strict.
        rows = [row("eq", 0, 1), row("lt", 0, 1)]
        check_call(self, False, accepts_system, 1, rows, ("multipliers", ((5, 1), (0, 1))))
        check_call(self, True, accepts_system, 1, rows, ("multipliers", ((-5, 1), (5, 1))))

    def test_each_total(self):
        rows = [row("eq", 1, 1, 2, 3), row("eq", 0, 1, 2, 3)]
        check_call(self, True, accepts_system, 3, rows, ("multipliers", ((1, 1), (-1, 1))))
        check_call(self, False, accepts_system, 3, rows, ("multipliers", ((-1, 1), (1, 1))))
        for place in (1, 2, 3):
            other = list(rows[1][1])
            other[place] = (5, 1)
            changed = [rows[0], ("eq", tuple(other))]
            check_call(self, False, accepts_system, 3, changed, ("multipliers", ((1, 1), (-1, 1))))

    def test_other_answers(self):
        numbers = ((1, 1), (1, 1))
        for word in ["", "Solution", "solutions", "multiplier", "always", "state", "lt"]:
            check_call(self, False, accepts_system, 2, EXAMPLE[:2], (word, numbers))
            check_call(self, False, accepts_system, 2, EXAMPLE[:2], (word, ()))
        check_call(self, False, accepts_system, 2, EXAMPLE[:2], ("multipliers", numbers))
        for odd in [odd for odd in ODD_VALUES if isinstance(odd, tuple)]:
            check_call(self, False, accepts_system, 2, EXAMPLE[:2], ("solution", odd))
            check_call(self, False, accepts_system, 2, EXAMPLE, ("multipliers", odd))


class ErrorTests(unittest.TestCase):
    def check_bad(self, name, v, rows):
        check_error(self, BadValue, {"name": name}, solve_system, v, rows)
        check_error(self, BadValue, {"name": name}, accepts_system, v, rows, ("solution", ((1, 1), (1, 1))))
        check_error(self, BadValue, {"name": name}, accepts_system, v, rows, None)

    def test_variables(self):
        for bad in [0, 6, -1, True, False, None, "2", (2,), 2.0]:
            self.check_bad("v", bad, EXAMPLE)
            self.check_bad("v", bad, None)

    def test_rows(self):
        for bad in ODD_VALUES:
            if bad != []:
                self.check_bad("rows", 2, bad)
            self.check_bad("rows", 2, [bad])
            self.check_bad("rows", 2, EXAMPLE + [bad])
            self.check_bad("rows", 2, [("le", bad)])
            self.check_bad("rows", 2, [(bad, EXAMPLE[0][1])])
            self.check_bad("rows", 2, [("le", (bad,) + EXAMPLE[0][1][1:])])
        self.check_bad("rows", 2, tuple(EXAMPLE))
        good = row("le", 1, 2, 3)
        self.check_bad("rows", 2, [good] * 15)
        solve_system(2, [good] * 14)
        for bad in [list(good), good[:1], good + (0,), ("gt", good[1]), ("LE", good[1]), (b"le", good[1]),
                    ("", good[1]), ("le", list(good[1])), ("le", good[1][:2]), ("le", good[1] + ((1, 1),)),
                    ("le", ()), (good[1], "le"), ("not", good), ("and", (good, good))]:
            self.check_bad("rows", 2, [bad])
            self.check_bad("rows", 2, [good, bad])

    def test_numbers(self):
        for number in [(999, 1), (-999, 1), (1, 999), (-998, 999)]:
            for place in range(3):
                numbers = [(1, 1)] * 3
                numbers[place] = number
                solve_system(2, [("le", tuple(numbers))])
        for number in [(1000, 1), (-1000, 1), (1, 1000), (999, 1000), (2, 4), (0, 3), (1, 0), (-1, -1), (1, -1)]:
            for place in range(3):
                numbers = [(1, 1)] * 3
                numbers[place] = number
                for kind in KINDS:
                    self.check_bad("rows", 2, [(kind, tuple(numbers))])


if __name__ == "__main__":
    unittest.main()
