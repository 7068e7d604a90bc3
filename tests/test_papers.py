"""Cones, papers and the judge of endings (points 106, 108, 109, 111 and 115)."""

import unittest

from helpers import ODD_VALUES, Picker, check_call, check_error, p, r
from loops import (
    all_pairs, bad_guards, endless_slowly, fractions, linear_map, near, right_ending, row, slow_cone, slow_lines,
    some_guard,
)
from roundknown.endings import ends_always
from roundknown.errors import BadValue, NotTold
from roundknown.papers import accepts_ending, cone_of
from test_endings import DOWN, HALF, IRRATIONAL, POSITIVE, REASON, SQUARE, UP

ONE_PAPER = ((), ("one", ((1, 1), (0, 1), (0, 1), (1, 1))))
ZERO = (0, 1)
# Two lines of one list, which are raised to a strict end.
DOUBLE = (p(1, x=2),)
CLASH = ((row("lt", 0, 1), row("le", 0, -1)),)
# The leads of z are those of the powers 3, 2, 1 and 0.
CUBIC = (p(3, x=1, one=1), p(3, x=1, y=1), p(3, y=1, z=1))


class ConeTests(unittest.TestCase):
    def test_example(self):
        # The fronts are -1, twice: the leads are -1 and x.
        below = [row("le", 0, 1, 0), row("le", 0, 1, 0), row("le", 0, -1, 0)]
        check_call(self, below, cone_of, DOWN, POSITIVE, (0, 0), [0, 0])
        check_call(self, [row("eq", 0, -1, 0), row("le", 0, 0, -1), row("le", 0, 1, 0), row("le", 0, -1, 0)],
                   cone_of, DOWN, POSITIVE, (0, 0), [1, 0])
        check_call(self, [row("eq", 0, -1, 0), row("le", 0, 1, 0), row("le", 0, 0, -1), row("le", 0, -1, 0)],
                   cone_of, DOWN, POSITIVE, (0, 0), [0, 1])
        # All raised: the first line has no front any more.
        check_call(self, [row("eq", 0, -1, 0), row("eq", 0, 0, 1), row("eq", 0, -1, 0), row("le", 0, 0, -1),
                          row("le", 0, -1, 0)], cone_of, DOWN, POSITIVE, (0, 0), [2, 1])
        check_call(self, [row("eq", 0, -1, 0), row("eq", 0, 0, 1)] * 2 + [row("le", 0, -1, 0)],
                   cone_of, DOWN, POSITIVE, (0, 0), [2, 2])

    def test_lines_of_rows(self):
        # An "eq" row gives two lines: x, then -x.
        guard = ((row("eq", 0, 1), row("le", 5, 1), row("lt", 3, -2)),)
        expected = [row("le", 0, 0, -1), row("le", 0, 0, 1), row("le", 0, 0, 1), row("le", 0, 0, -2)]
        check_call(self, expected * 2 + [row("le", 0, -1, 0)], cone_of, DOUBLE, guard, (0, 0), [0] * 8)
        raised = [row("le", 0, 5, 0) if place == 2 else told for place, told in enumerate(expected)]
        check_call(self, [row("eq", 0, 0, -1)] + raised + expected + [row("le", 0, -1, 0)],
                   cone_of, DOUBLE, guard, (0, 0), [0, 0, 1, 0, 0, 0, 0, 0])

    def test_pairs_with_different_lists(self):
        # x changes its sign: the even lines are those of list i, the odd ones those of list j.
        turn = (p(1, x=-3),)
        guard = ((row("lt", 0, -1),), (row("le", 7, 1), row("lt", 0, 0)))
        first, second = [row("le", 0, 0, -1)], [row("le", 0, 0, 1)]
        end = [row("le", 0, -1, 0)]
        check_call(self, first + second + end, cone_of, turn, guard, (0, 0), [0, 0])
        check_call(self, first + first + end, cone_of, turn, guard, (0, 1), [0, 0, 0])
        check_call(self, second + second + end, cone_of, turn, guard, (1, 0), [0, 0, 0])
        check_call(self, second + first + end, cone_of, turn, guard, (1, 1), [0, 0, 0, 0])
        check_call(self, [row("eq", 0, 0, -1)] + [row("le", 0, 7, 0)] + first + end,
                   cone_of, turn, guard, (1, 1), [1, 0, 0, 0])

    def test_lines_without_leads(self):
        guard = ((row("lt", 0, 0), row("le", 0, 0)),)
        check_call(self, [row("le", 0, -1, 0)], cone_of, UP, guard, (0, 0), [0, 0, 0, 0])
        for place in range(4):
            raised = [0] * 4
            raised[place] = 1
            check_error(self, BadValue, {"name": "raised"}, cone_of, UP, guard, (0, 0), raised)

    def test_changed_list(self):
        found = cone_of(DOWN, POSITIVE, (0, 0), [0, 0])
        found[0] = None
        found.append(None)
        self.assertEqual(cone_of(DOWN, POSITIVE, (0, 0), [0, 0])[0], row("le", 0, 1, 0))

    def test_many(self):
        picker = Picker(108)
        for _ in range(80):
            k = picker.number(1, 3)
            rules = linear_map(picker, k, *((3, 1), (4, 3))[picker.number(0, 1)])
            guard = some_guard(picker, k)
            pairs = all_pairs(guard)
            pair = pairs[picker.number(0, len(pairs) - 1)]
            lines = slow_lines(rules, guard, pair)
            for raised in [[0] * len(lines), [len(leads) for strict, leads in lines],
                           [picker.number(0, len(leads)) for strict, leads in lines]]:
                check_call(self, slow_cone(k, lines, raised), cone_of, rules, guard, pair, raised)
            for place in range(len(lines)):
                for number in (-1, len(lines[place][1]) + 1):
                    raised = [0] * len(lines)
                    raised[place] = number
                    check_error(self, BadValue, {"name": "raised"}, cone_of, rules, guard, pair, raised)

    def test_pairs(self):
        guard = POSITIVE * 2
        for bad in ODD_VALUES + [(2, 0), (0, 2), (-1, 0), (0, -1), (0,), (0, 0, 0), [0, 0], (True, 0), (0, False),
                                 ("0", 0), (0, None), (0.0, 0), 0, ((0, 0),)]:
            check_error(self, BadValue, {"name": "pair"}, cone_of, DOWN, guard, bad, [0, 0])
            check_error(self, BadValue, {"name": "pair"}, cone_of, DOWN, guard, bad, None)
        for pair in [(0, 0), (0, 1), (1, 0), (1, 1)]:
            self.assertEqual(len(cone_of(DOWN, guard, pair, [0, 0])), 3)

    def test_raised(self):
        for bad in ODD_VALUES + [[0], [0, 0, 0], (0, 0), [3, 0], [0, 3], [-1, 0], [0, -1], [True, 0], [0, False],
                                 ["0", 0], [0, None], [0, (0,)], [0.0, 0], [[0, 0]]]:
            if bad != [1, 2]:
                check_error(self, BadValue, {"name": "raised"}, cone_of, DOWN, POSITIVE, (0, 0), bad)
        self.assertEqual(len(cone_of(DOWN, POSITIVE, (0, 0), [1, 2])), 5)


class AcceptTests(unittest.TestCase):
    def check_near(self, rules, guard, answer, least):
        """Every answer that differs in one place is judged as the oracle does."""
        told = []
        for other in near(answer):
            if isinstance(other, tuple) and len(other) == 2 and isinstance(other[0], str):
                if isinstance(other[1], tuple):
                    expected = right_ending(rules, guard, other)
                    self.assertIs(accepts_ending(rules, guard, other), expected, other)
                    told.append(expected)
        self.assertGreater(told.count(False), least)

    def test_examples(self):
        check_call(self, True, accepts_ending, DOWN, POSITIVE, ("always", (ONE_PAPER,)))
        check_call(self, True, accepts_ending, HALF, POSITIVE, ("never", ((5, 1),)))
        check_call(self, False, accepts_ending, DOWN, POSITIVE, ("never", ((5, 1),)))

    def test_near_examples(self):
        self.check_near(DOWN, POSITIVE, ("always", (ONE_PAPER,)), 60)
        self.check_near(HALF, POSITIVE, ("never", ((5, 1),)), 15)

    def test_near_answers(self):
        leaving = (p(3, x=3), p(3, y=2), p(3, z=1, one=-1))
        clash = ((row("le", 0, 1, 1, -1), row("le", 0, -1, 0, 0), row("le", 0, 0, -1, 0)),)
        for rules, guard, least in [
            (DOUBLE, CLASH, 40), (DOWN, ((row("lt", 3, -1),), (row("eq", -3, 1),)), 300),
            (CUBIC, ((row("eq", 0, 0, 0, 1),),), 100), (leaving, clash, 200),
        ]:
            answer = ends_always(rules, guard)
            self.assertEqual(answer[0], "always")
            self.check_near(rules, guard, answer, least)

    def test_near_many(self):
        picker = Picker(109)
        for _ in range(15):
            k = picker.number(1, 2)
            rules = linear_map(picker, k, 2)
            guard = some_guard(picker, k, size=1, kinds=("le", "lt", "eq"), lists=1, rows=2)
            self.check_near(rules, guard, ends_always(rules, guard), 10)

    def test_raised_lines(self):
        # Lines 0 and 1 are -x and x in even rounds, 2 and 3 the same in odd ones.
        step = (0, ((0, 1), (1, 1), (0, 1), (0, 1), (0, 1), (1, 1)))
        lines = slow_lines(DOUBLE, CLASH, (0, 0))
        self.assertEqual(lines, [(True, [((0, 1), (-1, 1))]), (False, [((0, 1), (1, 1))])] * 2)
        good = ("always", (((step,), ("strict", 0)),))
        check_call(self, True, accepts_ending, DOUBLE, CLASH, good)
        for bad in [
            ((), ("strict", 0)),                        # the step is left out
            ((step, step), ("strict", 0)),              # the line has no front any more
            ((step,), ("strict", 1)), ((step,), ("strict", 2)), ((step,), ("strict", 3)),
            ((step,), ("strict", 4)), ((step,), ("strict", -1)), ((step,), ("strict", -4)),
            ((step,), ("strict", False)), ((step,), ("strict", None)), ((step,), ("strict", (0,))),
            ((step,), ("Strict", 0)), ((step,), ("one", 0)), ((step,), ("strict",)), ((step,), ("strict", 0, 0)),
            ((step,), ["strict", 0]), ([step], ("strict", 0)), ((step,),), ((step,), ("strict", 0), ()),
            (((4,) + step[1:],), ("strict", 0)), (((-4,) + step[1:],), ("strict", 0)),
            (((False,) + step[1:],), ("strict", 0)), ((list(step),), ("strict", 0)), ((step + ((),),), ("strict", 0)),
            (((0, step[1][:-1]),), ("strict", 0)), (((0, step[1] + (ZERO,)),), ("strict", 0)),
            (((0, list(step[1])),), ("strict", 0)), (((0, step[1][::-1]),), ("strict", 0)), (step, ("strict", 0)),
        ]:
            check_call(self, False, accepts_ending, DOUBLE, CLASH, ("always", (bad,)))
        # Another line can be raised before, and the rows of its leads stand in the order of the lines.
        other = (3, ((1, 1), (0, 1), (0, 1), (0, 1), (0, 1), (1, 1)))
        both = ("always", (((other, (0, ((1, 1), (0, 1), (0, 1), (0, 1), (0, 1), (1, 1)))), ("strict", 0)),))
        self.assertEqual(right_ending(DOUBLE, CLASH, both), accepts_ending(DOUBLE, CLASH, both))
        other = (3, ((1, 1), (0, 1), (0, 1), (0, 1), (0, 1), (1, 1)))
        moved = ("always", (((other, (0, ((-1, 1), (0, 1), (0, 1), (0, 1), (0, 1), (1, 1)))), ("strict", 0)),))
        check_call(self, right_ending(DOUBLE, CLASH, moved), accepts_ending, DOUBLE, CLASH, moved)
        self.assertNotEqual(accepts_ending(DOUBLE, CLASH, both), accepts_ending(DOUBLE, CLASH, moved))

    def test_strict_ends(self):
        empty = ((row("lt", 0, 0),),)
        check_call(self, True, accepts_ending, UP, empty, ("always", (((), ("strict", 0)),)))
        check_call(self, True, accepts_ending, UP, empty, ("always", (((), ("strict", 1)),)))
        for index in (-1, 2, True, False, None, "0", (0,), 0.0):
            check_call(self, False, accepts_ending, UP, empty, ("always", (((), ("strict", index)),)))
        # A line that is not strict, and one that still has a front.
        for guard in [((row("le", 0, 0),),), ((row("lt", -1, 0),),), ((row("lt", 0, -1),),), ((row("eq", 0, 0),),)]:
            for index in (0, 1, 2, 3):
                check_call(self, False, accepts_ending, UP, guard, ("always", (((), ("strict", index)),)))

    def test_one_ends(self):
        for good in [(1, 0, 0, 1), (0, 1, 0, 1), (1, 1, 0, 2), (1, 0, 5, (1, 1)), ((1, 2), (1, 3), (1, 6), (2, 3))]:
            numbers = tuple([r(*n) if isinstance(n, tuple) else r(n) for n in good])
            answer = ("always", (((), ("one", numbers)),))
            check_call(self, right_ending(DOWN, POSITIVE, answer), accepts_ending, DOWN, POSITIVE, answer)
        for numbers, told in [((1, 0, 0, 1), True), ((1, 1, 0, 2), True), ((1, 0, 1, 0), False), ((0, 0, 0, 0), False),
                              ((2, 0, 1, 1), True), ((1, 0, 0, 2), False), ((-1, 2, 0, 1), False),
                              ((0, 0, -1, 1), False),
                              ((10 ** 90, 10 ** 90, 0, 2 * 10 ** 90), True)]:
            answer = ("always", (((), ("one", tuple([r(n) for n in numbers]))),))
            check_call(self, told, accepts_ending, DOWN, POSITIVE, answer)
        long = tuple([r(n, 10 ** 100 + 1) for n in (3, 4, 0, 7)])
        check_call(self, True, accepts_ending, DOWN, POSITIVE, ("always", (((), ("one", long)),)))
        for numbers in [((1, 1), ZERO, (1, 1)), ((1, 1), ZERO, ZERO, (1, 1), ZERO), ((1, 1), ZERO, ZERO, (2, 2)),
                        ((1, 1), ZERO, ZERO, (True, 1)), ((1, 1), ZERO, ZERO, 1), (), None,
                        [(1, 1), ZERO, ZERO, (1, 1)]]:
            check_call(self, False, accepts_ending, DOWN, POSITIVE, ("always", (((), ("one", numbers)),)))
        # Once the front -1 is raised, it is an equation, which may have a multiplier below 0.
        step = (0, (ZERO, (1, 1), (1, 1), (1, 1)))
        self.assertFalse(accepts_ending(DOWN, POSITIVE,
                                        ("always", (((step,), ("one", ((1, 1), ZERO, ZERO, (1, 1)))),))))
        step = (0, (ZERO, ZERO, (1, 1), (1, 1)))
        end = ((-1, 1), ZERO, ZERO, ZERO, (1, 1))
        check_call(self, True, accepts_ending, DOWN, POSITIVE, ("always", (((step,), ("one", end)),)))
        check_call(self, False, accepts_ending, DOWN, POSITIVE, ("always", (((step,), ("one", end[1:])),)))
        check_call(self, False, accepts_ending, DOWN, POSITIVE, ("always", (((), ("one", end)),)))

    def test_counts_of_papers(self):
        for guard in (POSITIVE, POSITIVE * 2, POSITIVE * 3):
            for count in range(11):
                told = count == len(guard) ** 2
                check_call(self, told, accepts_ending, DOWN, guard, ("always", (ONE_PAPER,) * count))
        # Each paper belongs to its own pair: even rounds of list i, odd rounds of list j.
        turn = (p(1, x=-3),)
        guard = ((row("lt", 0, -1),), (row("lt", 0, -1), row("lt", 0, 0)))
        answer = ends_always(turn, guard)
        self.assertEqual(answer[0], "always")
        strict = [((), ("strict", index)) for index in range(4)]
        self.assertEqual([ends_always(turn, guard)[1][place][1][0] for place in (1, 2, 3)], ["strict"] * 3)
        check_call(self, True, accepts_ending, turn, guard, ("always", (answer[1][0], strict[2], strict[1], strict[1])))
        check_call(self, True, accepts_ending, turn, guard, ("always", (answer[1][0], strict[2], strict[1], strict[3])))
        for bad in [(strict[1], strict[1], strict[1]), (strict[2], strict[2], strict[1]),
                    (strict[2], strict[1], strict[2])]:
            check_call(self, False, accepts_ending, turn, guard, ("always", (answer[1][0],) + bad))

    def test_states(self):
        great = 10 ** 300
        for number, told in [((1, great), True), ((great, 1), True), ((great + 1, great), True), ((0, 1), False),
                             ((-1, great), False), ((-great, 1), False), ((2, 4), False), ((1, 0), False)]:
            check_call(self, told, accepts_ending, HALF, POSITIVE, ("never", (number,)))
        for number in [(1, 1), (great, 1)]:
            check_call(self, False, accepts_ending, DOWN, POSITIVE, ("never", (number,)))
            check_call(self, True, accepts_ending, UP, POSITIVE, ("never", ((-number[0], 1),)))
        for bad in [(), ((5, 1), (5, 1)), (5, 1), (5,), ((5.0, 1),), ((True, 1),), ([5, 1],), (None,)]:
            check_call(self, False, accepts_ending, HALF, POSITIVE, ("never", bad))
        picker = Picker(106)
        told = []
        for _ in range(150):
            k = picker.number(1, 3)
            rules = linear_map(picker, k, 3)
            guard = some_guard(picker, k, size=2, rows=2)
            state = tuple([picker.rational(10 ** 20, 10 ** 6) for _ in range(k)])
            expected = endless_slowly(rules, guard, fractions(state))
            check_call(self, expected, accepts_ending, rules, guard, ("never", state))
            told.append(expected)
        self.assertGreater(min(told.count(True), told.count(False)), 30)

    def test_other_answers(self):
        good = (ONE_PAPER,)
        for word in ["", "never", "state", "Always", "one", "strict"]:
            check_call(self, False, accepts_ending, DOWN, POSITIVE, (word, good))
        for odd in [odd for odd in ODD_VALUES if isinstance(odd, tuple)]:
            check_call(self, False, accepts_ending, DOWN, POSITIVE, ("always", odd))
            for item in [odd, (odd, ()), ((), odd), ((odd,), ("strict", 0)), ((), ("one", odd)), ((), ("strict", odd)),
                         (((0, odd),), ("strict", 0)), (((odd, ()),), ("strict", 0))]:
                check_call(self, False, accepts_ending, DOWN, POSITIVE, ("always", (item,)))
            check_call(self, False, accepts_ending, DOWN, POSITIVE, ("never", odd))


class ErrorTests(unittest.TestCase):
    def check_both(self, error, attributes, rules, guard):
        check_error(self, error, attributes, accepts_ending, rules, guard, ("always", (ONE_PAPER,)))
        check_error(self, error, attributes, accepts_ending, rules, guard, ("never", ((1, 1),)))
        check_error(self, error, attributes, cone_of, rules, guard, (0, 0), [0, 0])
        check_error(self, error, attributes, cone_of, rules, guard, None, None)

    def test_maps(self):
        for bad in ODD_VALUES + [[p(1, x=1)], (p(1, x=21),), (p(1, x4=1),), (p(2, x=1),), (p(2, x=1),) * 3]:
            if bad != ((),):
                self.check_both(BadValue, {"name": "map"}, bad, POSITIVE)
                self.check_both(BadValue, {"name": "map"}, bad, None)
        self.check_both(NotTold, {"reason": REASON}, IRRATIONAL, None)
        self.check_both(NotTold, {"reason": ("degree", 1)}, SQUARE, None)
        self.check_both(NotTold, {"reason": ("degree", 0)}, (p(2, y2=1), p(2, y=1)), POSITIVE)

    def test_guards(self):
        for bad in bad_guards(1, POSITIVE) + ODD_VALUES:
            self.check_both(BadValue, {"name": "guard"}, DOWN, bad)


if __name__ == "__main__":
    unittest.main()
