"""Conditions (points 83 and 84)."""

import unittest
from fractions import Fraction

from helpers import ODD_VALUES, Picker, check_call, fraction_value, p
from roundknown.conditions import comparisons, condition_problem, holds, is_condition
from roundknown.polynomials import polynomial

X = p(1, x=1)
LESS = ("lt", X)
SMALL = ("lt", (((1, 1), (1,)), ((-5, 1), (0,))))
BOTH = ("and", (SMALL, ("not", ("eq", (((1, 1), (1,)),)))))


def chain(depth, inner):
    """The condition in as many not as make this depth of the condition."""
    for _ in range(depth - 1):
        inner = ("not", inner)
    return inner


def some_condition(picker, k, depth=4):
    """A condition of k variables; it may have more than 6 comparisons."""
    word = ("eq", "lt", "le", "not", "and", "or")[picker.number(0, 5 if depth > 1 else 2)]
    if word in ("eq", "lt", "le"):
        rows = []
        for _ in range(picker.number(0, 3)):
            rows.append((picker.nonzero(6, 3), tuple([picker.number(0, 1) for _ in range(k)])))
        return (word, polynomial(k, rows))
    if word == "not":
        return (word, some_condition(picker, k, depth - 1))
    return (word, tuple([some_condition(picker, k, depth - 1) for _ in range(picker.number(2, 3))]))


def holds_slowly(condition, state):
    """What holds should say, by fractions and by looking at all members."""
    word, content = condition
    if word == "not":
        return [True, False][holds_slowly(content, state)]
    if word in ("and", "or"):
        found = [holds_slowly(member, state) for member in content]
        return found.count(False) == 0 if word == "and" else found.count(True) > 0
    number = fraction_value(content, [Fraction(*number) for number in state])
    return {"eq": number == 0, "lt": number < 0, "le": number <= 0}[word]


class ConditionTests(unittest.TestCase):
    def check_problem(self, expected, k, x):
        check_call(self, expected, condition_problem, k, x)
        check_call(self, expected is None, is_condition, k, x)

    def test_examples(self):
        check_call(self, True, holds, SMALL, ((4, 1),))
        check_call(self, False, holds, BOTH, ((0, 1),))
        check_call(self, [("lt", (((1, 1), (1,)), ((-5, 1), (0,)))), ("eq", (((1, 1), (1,)),))], comparisons, BOTH)
        check_call(self, False, is_condition, 1, ("and", (SMALL,)))

    def test_forms(self):
        for good in [("eq", X), ("lt", X), ("le", X), ("not", LESS), ("and", (LESS, LESS)), ("or", (LESS, LESS)),
                     ("eq", ()), ("le", p(1, one=1)), BOTH]:
            self.check_problem(None, 1, good)
        for odd in ODD_VALUES:
            self.check_problem("condition", 1, odd)
            self.check_problem("condition", 1, ("not", odd))
            self.check_problem("condition", 1, ("and", (LESS, odd)))
            self.check_problem("condition", 1, (odd, X))
            if odd != ():
                self.check_problem("polynomial", 1, ("lt", odd))
            self.check_problem("condition", 1, ("or", odd if odd != (1, 2, 3) else ()))
        for bad in [("eq", X, X), ("eq",), ["eq", X], ("ne", X), ("gt", X), ("Eq", X), ("EQ", X), (b"eq", X),
                    ("not", LESS, LESS), ("not",), ("xor", (LESS, LESS)), ("and", LESS, LESS), ("and", [LESS, LESS])]:
            self.check_problem("condition", 1, bad)

    def test_members(self):
        for word in ("and", "or"):
            for count in range(2, 7):
                self.check_problem(None, 2, (word, (("eq", p(2, y=1)),) * count))
            for count in (0, 1, 7, 8):
                self.check_problem("condition", 2, (word, (("eq", p(2, y=1)),) * count))
            # Members are a tuple of 2 to 6 items before they are looked at.
            self.check_problem("condition", 2, (word, (None,) * 7))
            self.check_problem("condition", 2, (word, [LESS, LESS]))
            self.check_problem("condition", 2, (word, "ab"))

    def test_depth(self):
        for depth in (1, 2, 3, 4):
            self.check_problem(None, 1, chain(depth, LESS))
        for depth in (5, 6, 300):
            self.check_problem("nested", 1, chain(depth, LESS))
        self.check_problem(None, 1, chain(3, ("and", (LESS, LESS))))
        self.check_problem("nested", 1, chain(4, ("and", (LESS, LESS))))
        # The fifth one is not looked at, whatever it is.
        self.check_problem("nested", 1, chain(5, None))
        self.check_problem("condition", 1, chain(4, None))
        self.check_problem("nested", 1, ("and", (LESS, ("or", (("not", ("not", ("eq", None))), None)))))

    def test_comparisons_counted(self):
        six = ("and", (("or", (LESS, LESS)), ("or", (LESS, LESS)), ("or", (LESS, LESS))))
        self.check_problem(None, 1, six)
        self.check_problem("comparisons", 1, ("and", (six, LESS)))
        self.check_problem("comparisons", 1, ("or", (LESS, six)))
        self.check_problem("comparisons", 1, ("or", (six, ("eq", None))))
        self.check_problem("polynomial", 1, ("or", (six[1][0], ("eq", None), six)))
        self.check_problem(None, 1, ("or", (LESS,) * 6))
        self.check_problem("comparisons", 1, ("or", (("or", (LESS,) * 6), ("or", (LESS,) * 6))))

    def test_first_problem(self):
        long = p(1, x3=1, one=21)
        self.check_problem("polynomial", 1, ("and", (("lt", long), None)))
        self.check_problem("condition", 1, ("and", (None, ("lt", long))))
        self.check_problem("nested", 1, ("and", (chain(4, LESS), ("lt", long))))
        self.check_problem("polynomial", 1, ("and", (("not", ("lt", long)), chain(4, LESS))))
        self.check_problem("condition", 1, ("and", (("not", None), ("lt", long))))
        self.check_problem("polynomial", 1, ("and", (LESS, ("or", (("eq", long), None)))))
        self.check_problem("comparisons", 1, ("and", (("or", (LESS,) * 6), ("lt", long))))

    def test_polynomials(self):
        six = p(2, x2=1, xy=1, y2=1, x=1, y=1, one=1)
        seven = p(2, x2y=1, x2=1, xy=1, y2=1, x=1, y=1, one=1)
        for good in [six, p(2, x3y3=1), p(2, x=(20, 1)), p(2, x=(-20, 19)), p(2, x=(1, 20)), ()]:
            for word in ("eq", "lt", "le"):
                self.check_problem(None, 2, (word, good))
        for bad in [seven, p(2, x4=1), p(2, y4=1), p(2, x=21), p(2, x=-21), p(2, x=(1, 21)), six[::-1], list(six),
                    p(1, x=1), p(3, x=1), (((2, 2), (1, 0)),), (((0, 1), (1, 0)),), (((1, 1), (True, 0)),),
                    (((True, 1), (1, 0)),), (((1, 1), (-1, 0)),), (((1, 1), [1, 0]),), six + six[-1:]]:
            for word in ("eq", "lt", "le"):
                self.check_problem("polynomial", 2, (word, bad))
        for k in (1, 2, 3):
            self.check_problem(None, k, ("lt", p(k, x=1)))
            self.check_problem("polynomial", k, ("lt", p(k % 3 + 1, x=1)))


class HoldsTests(unittest.TestCase):
    def test_comparisons(self):
        for number, told in [((-1, 3), (False, True, True)), ((0, 1), (True, False, True)), ((1, 9), (False,) * 3)]:
            for word, expected in zip(("eq", "lt", "le"), told):
                check_call(self, expected, holds, (word, X), (number,))
                check_call(self, not expected, holds, ("not", (word, X)), (number,))
        check_call(self, True, holds, ("eq", ()), ((5, 1),))
        check_call(self, False, holds, ("lt", ()), ((5, 1),))
        check_call(self, True, holds, ("lt", p(1, one=(-1, 20))), ((5, 1),))

    def test_members(self):
        yes, no = ("eq", ()), ("lt", ())
        for count in (2, 3, 6):
            for place in range(count):
                one_no = tuple([no if other == place else yes for other in range(count)])
                one_yes = tuple([yes if other == place else no for other in range(count)])
                check_call(self, False, holds, ("and", one_no), ((1, 1),))
                check_call(self, True, holds, ("or", one_no), ((1, 1),))
                check_call(self, False, holds, ("and", one_yes), ((1, 1),))
                check_call(self, True, holds, ("or", one_yes), ((1, 1),))
            check_call(self, True, holds, ("and", (yes,) * count), ((1, 1),))
            check_call(self, False, holds, ("or", (no,) * count), ((1, 1),))

    def test_long_numbers(self):
        square = ("eq", p(2, x2=1, y=-1))
        number = (10 ** 3000 + 1, 10 ** 1000 + 3)
        squared = (number[0] ** 2, number[1] ** 2)
        check_call(self, True, holds, square, (number, squared))
        check_call(self, False, holds, square, (number, (squared[0] + 1, squared[1])))
        near = ("lt", p(2, x2=1, y=-1))
        check_call(self, False, holds, near, (number, squared))
        check_call(self, True, holds, near, (number, (squared[0] + 1, squared[1])))
        check_call(self, False, holds, near, (number, (squared[0] - 1, squared[1])))

    def test_against_fractions(self):
        picker = Picker(83)
        seen = []
        for _ in range(300):
            k = picker.number(1, 3)
            condition = some_condition(picker, k)
            for _ in range(5):
                state = tuple([picker.rational(9, 4) for _ in range(k)])
                expected = holds_slowly(condition, state)
                check_call(self, expected, holds, condition, state)
                seen.append(expected)
        self.assertGreater(seen.count(True), 200)
        self.assertGreater(seen.count(False), 200)


class ComparisonsTests(unittest.TestCase):
    def test_order(self):
        rows = [(word, p(1, one=number)) for number, word in enumerate(("eq", "lt", "le", "lt", "eq", "le"), 1)]
        inner = ("and", (("not", rows[1]), ("or", (rows[2], rows[3]))))
        condition = ("or", (rows[0], inner, ("not", rows[4]), rows[5]))
        check_call(self, rows, comparisons, condition)
        check_call(self, [LESS], comparisons, LESS)
        check_call(self, [LESS], comparisons, chain(4, LESS))
        check_call(self, [LESS] * 6, comparisons, ("and", (LESS,) * 6))

    def test_changed_list(self):
        found = comparisons(BOTH)
        found.reverse()
        self.assertEqual(comparisons(BOTH), [SMALL, ("eq", X)])


if __name__ == "__main__":
    unittest.main()
