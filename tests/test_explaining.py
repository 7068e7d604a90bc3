"""Guards of conditions, reports about loops, and their endings (points 117 to 120)."""

import unittest

from helpers import ODD_VALUES, Picker, check_call, check_error, p
from loops import fractions, guard_true, linear_map, right_ending, row
from roundknown.conditions import comparisons, holds, is_condition
from roundknown.endings import ends_always
from roundknown.errors import BadValue, NotTold
from roundknown.explaining import ending_of, guard_of, loop_reports
from roundknown.implications import guard_holds
from roundknown.layers import why_not
from roundknown.papers import accepts_ending
from roundknown.polynomials import polynomial
from roundknown.programs import Program
from roundknown.reading import read_condition, read_program
from roundknown.runs import run_of
from roundknown.walking import walk
from test_walking import some_program

A, B, C, D = ("lt", p(2, x=1)), ("le", p(2, y=2, one=-1)), ("lt", p(2, x=1, y=1)), ("le", p(2, one=7))
E = ("eq", p(2, x=1, one=(-1, 2)))
RA, RB, RC, RD = row("lt", 0, 1, 0), row("le", -1, 0, 2), row("lt", 0, 1, 1), row("le", 7, 0, 0)
RE = row("eq", (-1, 2), 1, 0)
# The opposites.
NA, NB, NC, ND = row("le", 0, -1, 0), row("lt", 1, 0, -2), row("le", 0, -1, -1), row("lt", -7, 0, 0)
E_LOW, E_HIGH = row("lt", (-1, 2), 1, 0), row("lt", (1, 2), -1, 0)
NONLINEAR = ("lt", p(2, xy=1))
UP = "x := x + 1;"


def no(condition):
    return ("not", condition)


def every(*members):
    return ("and", members)


def some(*members):
    return ("or", members)


def slow_lists(condition, positive=True):
    """The lists of rows of a condition, or of its opposite, in another way than by making the opposite."""
    word, content = condition
    if word == "not":
        return slow_lists(content, not positive)
    if word in ("and", "or"):
        members = [slow_lists(member, positive) for member in content]
        if (word == "or") == positive:
            return sum(members, [])
        found = [[]]
        for lists in members:
            found = [rows + more for rows in found for more in lists]
        return found
    c = [0] * (1 + (len(content[0][1]) if content else 0))
    for coefficient, exponents in content:
        c[exponents.index(1) + 1 if any(exponents) else 0] = coefficient
    plus = tuple([number or (0, 1) for number in c])
    minus = tuple([(-n, d) for n, d in plus])
    if positive:
        return [[(word, plus)]]
    if word == "eq":
        return [[("lt", plus)], [("lt", minus)]]
    return [[("le" if word == "lt" else "lt", minus)]]


class GuardTests(unittest.TestCase):
    def check_guard(self, condition, *lists):
        check_call(self, tuple(lists), guard_of, 2, condition)

    def check_none(self, condition):
        self.assertTrue(is_condition(2, condition))
        check_call(self, None, guard_of, 2, condition)

    def test_comparisons(self):
        self.check_guard(A, (RA,))
        self.check_guard(B, (RB,))
        self.check_guard(E, (RE,))
        self.check_guard(("eq", ()), (row("eq", 0, 0, 0),))
        check_call(self, ((row("le", 5, (-1, 3), 0, 20),),), guard_of, 3, ("le", p(3, x=(-1, 3), z=20, one=5)))
        check_call(self, ((row("lt", 0, -1),),), guard_of, 1, ("lt", p(1, x=-1)))

    def test_not(self):
        self.check_guard(no(A), (NA,))
        self.check_guard(no(B), (NB,))
        self.check_guard(no(E), (E_LOW,), (E_HIGH,))
        self.check_guard(no(no(A)), (RA,))
        self.check_guard(no(no(E)), (RE,))
        self.check_guard(no(no(no(E))), (E_LOW,), (E_HIGH,))
        self.check_guard(no(every(A, B)), (NA,), (NB,))
        self.check_guard(no(some(A, B)), (NA, NB))
        self.check_guard(no(every(no(A), no(E))), (RA,), (RE,))
        self.check_guard(no(some(no(A), B, no(C))), (RA, NB, RC))
        self.check_guard(no(some(E, A)), (E_LOW, NA), (E_HIGH, NA))
        self.check_guard(no(every(E, A)), (E_LOW,), (E_HIGH,), (NA,))
        self.check_guard(no(every(some(A, B), C)), (NA, NB), (NC,))
        self.check_guard(no(some(every(A, B), C)), (NA, NC), (NB, NC))

    def test_or(self):
        self.check_guard(some(A, B), (RA,), (RB,))
        self.check_guard(some(A, B, E), (RA,), (RB,), (RE,))
        self.check_guard(some(A, some(B, C)), (RA,), (RB,), (RC,))
        self.check_guard(some(every(A, B), C), (RA, RB), (RC,))
        self.check_guard(some(no(E), A), (E_LOW,), (E_HIGH,), (RA,))
        self.check_guard(some(A, A), (RA,), (RA,))

    def test_and(self):
        self.check_guard(every(A, B), (RA, RB))
        self.check_guard(every(A, B, E), (RA, RB, RE))
        self.check_guard(every(every(A, B), C), (RA, RB, RC))
        self.check_guard(every(some(A, B), C), (RA, RC), (RB, RC))
        self.check_guard(every(C, some(A, B)), (RC, RA), (RC, RB))
        self.check_guard(every(A, no(E)), (RA, E_LOW), (RA, E_HIGH))
        self.check_guard(every(some(A, every(B, C)), D), (RA, RD), (RB, RC, RD))
        self.check_guard(every(some(A, B, C), D), (RA, RD), (RB, RD), (RC, RD))
        self.check_guard(every(A, some(every(B, C), D)), (RA, RB, RC), (RA, RD))

    def test_choices_of_several_members(self):
        """The first member counts most; seen at lists of the opposite, where all of them have rows."""
        self.check_none(every(some(A, B), some(C, D)))
        self.check_none(every(some(A, B), some(C, D), E))
        self.assertEqual(slow_lists(every(some(A, B), some(C, D))), [[RA, RC], [RA, RD], [RB, RC], [RB, RD]])

    def test_numbers_of_lists_and_rows(self):
        self.check_guard(some(A, B, C), (RA,), (RB,), (RC,))
        self.check_none(some(A, B, C, D))
        self.check_none(some(A, A, A, A))
        self.check_none(some(A, B, no(E), C))
        self.check_none(some(no(E), no(E)))
        self.check_guard(every(A, B, C), (RA, RB, RC))
        self.check_none(every(A, B, C, D))
        self.check_none(every(A, A, A, A))
        self.check_none(some(A, every(A, B, C, D)))
        self.check_guard(some(A, every(A, B, C)), (RA,), (RA, RB, RC))
        self.check_none(every(some(A, every(B, C)), D, E))
        self.check_none(every(no(E), no(E)))
        self.check_none(every(*[no(E)] * 6))

    def test_not_linear(self):
        self.check_none(NONLINEAR)
        self.check_none(some(A, NONLINEAR))
        self.check_none(every(NONLINEAR, A))
        self.check_none(no(every(A, no(NONLINEAR))))
        for told in [p(2, x2=1), p(2, y3=1, x=1), p(2, xy=1, one=1)]:
            for word in ("eq", "lt", "le"):
                self.check_none((word, told))

    def test_many(self):
        picker = Picker(118)
        found = []
        while len(found) < 400:
            k = picker.number(1, 3)
            condition = self.some_condition(picker, k, 4)
            if not is_condition(k, condition):
                continue
            lists = slow_lists(condition)
            lists = [[(kind, told + ((0, 1),) * (k + 1 - len(told))) for kind, told in rows] for rows in lists]
            good = len(lists) <= 3 and all(len(rows) <= 3 for rows in lists)
            expected = tuple([tuple(rows) for rows in lists]) if good else None
            check_call(self, expected, guard_of, k, condition)
            found.append(expected)
            for _ in range(6):
                state = tuple([picker.rational(3, 2) for _ in range(k)])
                # Also where there are too many lists, they say the same as the condition.
                self.assertEqual(guard_true(lists, fractions(state)), holds(condition, state))
                if good:
                    self.assertEqual(guard_holds(expected, state), holds(condition, state))
        self.assertGreater(found.count(None), 40)
        self.assertGreater(len([guard for guard in found if guard and len(guard) > 1 and max(map(len, guard)) > 1]), 40)

    def some_condition(self, picker, k, depth):
        word = ("eq", "lt", "le", "not", "and", "or", "and", "or")[picker.number(0, 7 if depth > 1 else 2)]
        if word in ("eq", "lt", "le"):
            rows = [(picker.rational(3, 2), tuple([int(i == j) for j in range(k)])) for i in range(k)]
            return (word, polynomial(k, rows + [(picker.rational(3, 2), (0,) * k)]))
        if word == "not":
            return (word, self.some_condition(picker, k, depth - 1))
        return (word, tuple([self.some_condition(picker, k, depth - 1) for _ in range(2)]))

    def test_no_conditions(self):
        for bad in ODD_VALUES + [list(A), ("and", (A,)), ("and", (A,) * 7), ("gt", A[1]), ("lt", p(1, x=1)),
                                 ("lt", p(2, x=21)),
                                 no(no(no(no(A)))), ("not", (A,)), every(every(A, A, A, A), some(A, A, A)),
                                 ("lt", p(2, x4=1)),
                                 every(A, None), RA, (A,)]:
            check_error(self, BadValue, {"name": "condition"}, guard_of, 2, bad)
        for k in (1, 3):
            check_error(self, BadValue, {"name": "condition"}, guard_of, k, A)
        check_call(self, None, guard_of, 2, every(*[A] * 6))


class ReportTests(unittest.TestCase):
    def check_reports(self, text, *expected):
        check_call(self, list(expected), loop_reports, read_program(text))

    def test_example(self):
        self.check_reports(
            "var x, y; while x > 0 or y > 0 { x, y := y, x - 1; } repeat y { x := x^2; }",
            ("while", None, ((row("lt", 0, -1, 0),), (row("lt", 0, 0, -1),))),
            ("repeat", ("product", 0, ((1, 1), (2, 0))), None),
        )

    def test_each_kind(self):
        self.check_reports("var x; x := 1;")
        guard = ((row("lt", 0, -1),),)
        self.check_reports("var x; while x > 0 { }", ("while", None, guard))
        self.check_reports("var x; repeat x { " + UP + " }", ("repeat", None, None))
        # Maps that are told but not linear, maps that are not told, conditions without a guard.
        self.check_reports("var x, y; while x > 0 { y := x^2; }", ("while", None, None))
        self.check_reports("var x, y; while x > 0 { y := 0; x := x^0*x; }", ("while", None, ((row("lt", 0, -1, 0),),)))
        reason = ("irrational", (0, 1), ((-1, 1), (-1, 1), (1, 1)))
        self.check_reports("var x, y; while x > 0 { x, y := x + y, x; }", ("while", reason, None))
        self.check_reports("var x, y; repeat y { x, y := x + y, x; }", ("repeat", reason, None))
        self.check_reports("var x; while x^2 > 0 { " + UP + " }", ("while", None, None))
        self.check_reports("var x; while x < 0 or x = 1 or x = 2 or x = 3 { }", ("while", None, None))
        self.check_reports("var x; while x < 0 and x < 1 and x < 2 and x < 3 { }", ("while", None, None))
        self.check_reports("var x; while x != 1 { }", ("while", None, ((row("lt", -1, 1),), (row("lt", 1, -1),))))

    def test_order(self):
        self.check_reports(
            "var x; if x = 0 { repeat x { } if x = 1 { while x > 0 { x := x^2; } } } else { while x = 0 { } }"
            " repeat x { }",
            ("repeat", None, None), ("while", ("product", 0, ((1, 1), (2,))), None),
            ("while", None, ((row("eq", 0, 1),),)),
            ("repeat", None, None),
        )

    def test_many(self):
        picker = Picker(120)
        found = []
        for _ in range(150):
            program = some_program(picker)
            k = len(program.names)
            expected = []
            for loop in program.loops():
                reason = why_not(loop[2])
                linear = all(sum(exponents) <= 1 for told in loop[2] for number, exponents in told)
                guard = guard_of(k, loop[1]) if loop[0] == "while" and reason is None and linear else None
                expected.append((loop[0], reason, guard))
            check_call(self, expected, loop_reports, program)
            found.extend(expected)
        self.assertGreater(len([item for item in found if item[2] is not None]), 60)
        self.assertGreater(len([item for item in found if item[1] is not None]), 5)

    def test_changed_list(self):
        program = read_program("var x; repeat x { }")
        loop_reports(program).clear()
        self.assertEqual(loop_reports(program), [("repeat", None, None)])


class EndingTests(unittest.TestCase):
    TEXT = ("var x, y; while x > 0 { x := x - 1; } while x > 0 or y > 3 { x, y := y - 1, x - 1; }"
            " repeat x { y := y + 1; } if x = 0 { while x^2 > y { x := x + y; } } ")

    def test_answers(self):
        for text, word in [("x > 0 { x := x - 1; }", "always"), ("x > 0 { x := 1/2*x; }", "never"),
                           ("x != 0 { x := x - 1; }", "never"), ("x > 0 { x := 5 - x; y := x; }", "never"),
                           ("x >= 1 and y >= 1 { x := x - y; }", "always"),
                           ("x > y { x := x + 1; y := y + 2; }", "always"),
                           ("x < 0 and y = 0 { }", "never"), ("x > y { y := x + y; x := 0; }", "never")]:
            program = read_program("var x, y; while " + text)
            loop = program.loops()[0]
            answer = ending_of(program, 0)
            check_call(self, answer, ending_of, program, 0)
            self.assertEqual(answer[0], word, text)
            guard = loop_reports(program)[0][2]
            self.assertEqual(answer, ends_always(loop[2], guard))
            self.assertTrue(accepts_ending(loop[2], guard, answer))
            self.assertTrue(right_ending(loop[2], guard, answer))

    def test_order_of_errors(self):
        program = read_program("var x, y; repeat x { } repeat x { y := y^2; } while x^2 > 0 { y := y^2; }"
                               " if x = 0 { while x^2 > 0 { y := x^2; } }")
        reason = ("product", 1, ((1, 1), (0, 2)))
        for loop, expected in enumerate([("plain",), reason, reason, ("plain",)]):
            check_error(self, NotTold, {"reason": expected}, ending_of, program, loop)
        for bad in [-1, 4, True, False, None, "0", (0,), 0.0]:
            check_error(self, BadValue, {"name": "loop"}, ending_of, program, bad)
        empty = read_program("var x; x := 1;")
        for bad in [0, 1, -1]:
            check_error(self, BadValue, {"name": "loop"}, ending_of, empty, bad)
        irrational = read_program("var x, y; while x > 0 { x, y := x + y, x; }")
        reason = ("irrational", (0, 1), ((-1, 1), (-1, 1), (1, 1)))
        check_error(self, NotTold, {"reason": reason}, ending_of, irrational, 0)
        # A map that is told but not linear, and conditions without a guard.
        for text in ["while x > 0 { y := x^2; }", "while x*y > 0 { }", "while x = 0 or x = 1 or x = 2 or x = 3 { }",
                     "while x < 0 and x < 1 and x < 2 and x < 3 { }", "repeat x { }"]:
            check_error(self, NotTold, {"reason": ("plain",)}, ending_of, read_program("var x, y; " + text), 0)

    def test_loops_of_a_program(self):
        program = read_program(self.TEXT)
        answers = [ending_of(program, 0), ending_of(program, 1)]
        self.assertEqual([answer[0] for answer in answers], ["always", "always"])
        for loop in (2, 3):
            check_error(self, NotTold, {"reason": ("plain",)}, ending_of, program, loop)

    def test_guard_ending_and_run_agree(self):
        """What is told of the ending of a loop is seen in its runs."""
        picker = Picker(119)
        words = []
        while len(words) < 60:
            k = picker.number(1, 2)
            names = ("x", "y")[:k]
            text = " and ".join([f"{picker.number(-2, 2)}*{name} < {picker.number(-3, 3)}" for name in names])
            condition = read_condition(names, text)
            rules = linear_map(picker, k, 2)
            program = Program(names=names, body=(("while", condition, rules),))
            answer = ending_of(program, 0)
            words.append(answer[0])
            guard = guard_of(k, condition)
            self.assertEqual(len(comparisons(condition)), k)
            for _ in range(4):
                state = tuple([picker.rational(5, 2) for _ in range(k)])
                self.assertEqual(guard_holds(guard, state), holds(condition, state))
                told = run_of(program, state)
                if answer[0] == "always":
                    self.assertNotEqual(told[0], "never")
                walked = walk(program, state, 60)
                if told[0] == "done" and told[1][0][1] <= 60 and walked[0] == "done":
                    self.assertEqual(told, walked)
                if told[0] == "never":
                    self.assertNotEqual(walked[0], "done")
        self.assertGreater(min(words.count("always"), words.count("never")), 15)


if __name__ == "__main__":
    unittest.main()
