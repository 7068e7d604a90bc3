"""Guards that are kept and measures that fall (points 113 to 115)."""

import unittest
from fractions import Fraction

from helpers import ODD_VALUES, Picker, check_call, check_error, p, r
from loops import bad_guards, dot, fractions, guard_true, linear_map, near, right_implied, row, some_guard, step_of
from roundknown.endings import endless_at_last, ends_always
from roundknown.errors import BadValue, NotTold, TooLarge
from roundknown.implications import accepts_implied, guard_holds
from roundknown.measures import accepts_falls, accepts_kept, falls, kept
from roundknown.programs import Program
from roundknown.runs import run_of
from roundknown.walking import walk
from test_endings import DOWN, HALF, IRRATIONAL, POSITIVE, REASON, SQUARE, TURN, UP, expression

DOUBLES = (row("eq", 1, 1), row("eq", 2, 1))
TRIPLES = (row("eq", 1, 1), row("eq", 2, 1), row("lt", 3, 1))


def later(rules, told):
    """The expression after one round, from its values at 0 and at the units."""
    k = len(rules)
    zero = step_of(rules, [Fraction(0)] * k)
    found = [dot(told, zero)]
    for i in range(k):
        unit = step_of(rules, [Fraction(int(i == place)) for place in range(k)])
        found.append(dot(told, unit) - found[0])
    return tuple([r(number) for number in found])


def later_guard(rules, guard):
    return tuple([tuple([(kind, later(rules, told)) for kind, told in rows]) for rows in guard])


def falling_guard(rules, measure):
    change = [Fraction(*a) - Fraction(*b) for a, b in zip(later(rules, measure), measure)]
    change[0] += 1
    return ((("le", tuple([(-n, d) for n, d in measure])), ("le", tuple([r(number) for number in change]))),)


class KeptTests(unittest.TestCase):
    def check_kept(self, rules, guard, word=None):
        answer = kept(rules, guard)
        self.assertTrue(right_implied(len(rules), guard, later_guard(rules, guard), answer), (rules, guard, answer))
        check_call(self, True, accepts_kept, rules, guard, answer)
        self.assertEqual(kept(rules, guard), answer)
        if word is not None:
            self.assertEqual(answer[0], word)
        return answer

    def test_one_variable(self):
        for rules, word in [(UP, "always"), (DOWN, "state"), (HALF, "always"), (TURN, "state"),
                            ((p(1, x=1),), "always"),
                            ((p(1, one=3),), "always"), ((p(1, one=-3),), "state"), (((),), "state")]:
            self.check_kept(rules, POSITIVE, word)
        self.assertIn(kept(DOWN, POSITIVE)[1][0], [(1, 1)] + [r(n, 12) for n in range(1, 12)])
        # Down from 1 to 0, but not from 2: the whole numbers are not meant alone.
        self.check_kept(DOWN, ((row("lt", 0, -1), row("le", -5, 1)),), "state")
        self.check_kept(DOWN, ((row("le", -5, 1),),), "always")
        self.check_kept(TURN, ((row("lt", 0, -1),), (row("lt", 0, 1),)), "always")
        self.check_kept(TURN, ((row("lt", 0, -1),), (row("le", 0, 1),)), "always")
        self.check_kept(TURN, ((row("lt", 0, -1),), (row("le", 1, 1),)), "state")
        self.check_kept((p(1, x=2, one=-4),), ((row("eq", -4, 1),),), "always")
        self.check_kept((p(1, x=2, one=-4),), ((row("eq", -5, 1),),), "state")

    def test_planes(self):
        # x + y stays, x and y are exchanged.
        swap = (p(2, y=1), p(2, x=1))
        self.check_kept(swap, ((row("le", -3, 1, 1), row("lt", 0, -1, 0), row("lt", 0, 0, -1)),), "always")
        self.check_kept(swap, ((row("lt", 0, -1, 0), row("le", 0, 0, 0)),), "state")
        self.check_kept(swap, ((row("lt", 0, -1, 0),), (row("lt", 0, 0, -1),)), "always")
        # After a round, a difference of at least 1 is at least 2.
        self.check_kept((p(2, x=2), p(2, y=2)), ((row("le", 1, -1, 1),),), "always")

    def test_numbers_beyond_limits(self):
        """The guard after one round may have numbers that no argument may have."""
        rules = (p(2, x=20, y=(19, 17), one=20), p(2, y=(-20, 19)))
        guard = ((row("le", (999, 998), (-991, 997), (7, 999)), row("lt", 1, -999, (-999, 997))),)
        self.check_kept(rules, guard)
        self.check_kept(rules, (guard[0][:1], guard[0][1:]))

    def test_kept_loops_never_end(self):
        picker = Picker(113)
        count = 0
        for _ in range(400):
            k = picker.number(1, 2)
            rules = linear_map(picker, k, 2)
            guard = some_guard(picker, k, size=2, rows=2)
            answer = self.check_kept(rules, guard)
            if answer[0] == "state":
                numbers = fractions(answer[1])
                self.assertTrue(guard_true(guard, numbers))
                self.assertFalse(guard_true(guard, step_of(rules, numbers)))
                continue
            state = tuple([picker.rational(4, 2) for _ in range(k)])
            if guard_holds(guard, state):
                count += 1
                self.assertTrue(endless_at_last(rules, guard, state))
                numbers = fractions(state)
                for _ in range(8):
                    self.assertTrue(guard_true(guard, numbers))
                    numbers = step_of(rules, numbers)
        self.assertGreater(count, 15)

    def test_run(self):
        """The loop of a program with a kept guard stays for ever."""
        loop = ("while", ("lt", p(1, x=-1)), UP)
        program = Program(names=("x",), body=(loop,))
        self.check_kept(UP, POSITIVE, "always")
        self.assertEqual(run_of(program, ((1, 12),)), ("never", (), ("body", 0)))
        self.assertEqual(walk(program, ((1, 12),), 60), ("limit", (), ("body", 0)))

    def test_many_ways(self):
        for guard, many in [((DOUBLES,) * 3, False), ((DOUBLES, TRIPLES, DOUBLES), True), ((TRIPLES,) * 3, True),
                            ((TRIPLES,) * 2, False)]:
            if many:
                check_error(self, TooLarge, {"what": "ways"}, kept, UP, guard)
                check_error(self, TooLarge, {"what": "ways"}, accepts_kept, UP, guard, ("state", ((-1, 1),)))
                check_error(self, TooLarge, {"what": "ways"}, accepts_kept, UP, guard, ("always", ()))
                # Only the guard with the measure is denied there, in two ways.
                answer = falls(UP, guard, expression(0, 1))
                self.assertTrue(accepts_falls(UP, guard, expression(0, 1), answer))
            else:
                self.check_kept(UP, guard)

    def test_near_answers(self):
        for rules, guard in [(UP, POSITIVE), (TURN, ((row("lt", 0, -1),), (row("lt", 0, 1),))), (DOWN, POSITIVE)]:
            answer = kept(rules, guard)
            told = []
            for other in near(answer):
                if isinstance(other, tuple) and len(other) == 2 and isinstance(other[0], str):
                    if isinstance(other[1], tuple):
                        expected = right_implied(len(rules), guard, later_guard(rules, guard), other)
                        check_call(self, expected, accepts_kept, rules, guard, other)
                        told.append(expected)
            self.assertGreater(told.count(False), 10)
        # A state in which the guard does not hold, and one in which it also holds after a round.
        for number, told in [(-1, False), (0, False), ((1, 2), True), (1, True), ((3, 2), False)]:
            number = r(*number) if isinstance(number, tuple) else r(number)
            check_call(self, told, accepts_kept, DOWN, POSITIVE, ("state", (number,)))
        great = 10 ** 100
        check_call(self, True, accepts_kept, DOWN, POSITIVE, ("state", ((1, great),)))
        check_call(self, False, accepts_kept, DOWN, POSITIVE, ("state", ((great + 1, great),)))
        check_call(self, True, accepts_kept, UP, POSITIVE, ("always", ((((great, 3), (great, 3)),),)))
        check_call(self, False, accepts_kept, UP, POSITIVE, ("always", ((((great, 3), (great, 7)),),)))


class FallsTests(unittest.TestCase):
    def check_falls(self, rules, guard, measure, word=None):
        answer = falls(rules, guard, measure)
        second = falling_guard(rules, measure)
        self.assertTrue(right_implied(len(rules), guard, second, answer), (rules, guard, measure, answer))
        check_call(self, True, accepts_falls, rules, guard, measure, answer)
        self.assertEqual(falls(rules, guard, measure), answer)
        if word is not None:
            self.assertEqual(answer[0], word)
        return answer

    def test_one_variable(self):
        for told, word in [((0, 1), "always"), ((5, 1), "always"), ((0, 2), "always"), ((0, (1, 2)), "state"),
                           ((-1, 1), "state"), ((0, -1), "state"), ((7, 0), "state"), ((0, 0), "state")]:
            self.check_falls(DOWN, POSITIVE, expression(*told), word)
        self.check_falls(UP, POSITIVE, expression(0, 1), "state")
        self.check_falls(UP, ((row("lt", -9, 1),),), expression(9, -1), "always")
        # Halving falls by 1 only where x is at least 2.
        self.check_falls(HALF, POSITIVE, expression(0, 1), "state")
        self.check_falls(HALF, ((row("le", 2, -1),),), expression(0, 1), "always")
        self.check_falls(HALF, ((row("lt", 2, -1),),), expression(0, 1), "always")
        self.check_falls(HALF, ((row("le", (199, 100), -1),),), expression(0, 1), "state")
        # A fall by exactly 1 is enough, and so is a measure of exactly 0.
        self.check_falls(DOWN, ((row("le", 0, -1),),), expression(0, 1), "always")
        self.check_falls(DOWN, ((row("le", (-1, 999), -1),),), expression(0, 1), "state")
        self.check_falls((p(1, x=1, one=(-19, 20)),), POSITIVE, expression(0, 1), "state")
        self.check_falls((p(1, x=1, one=(-19, 20)),), POSITIVE, expression(0, (20, 19)), "always")

    def test_several_lists(self):
        rules = (p(2, x=1, one=-1), p(2, y=1, one=-2))
        guard = ((row("lt", 0, -1, 0), row("le", 0, 0, -1)), (row("eq", 0, 1, -1), row("lt", 0, 0, -1)))
        for told, word in [((0, 1, 0), "always"), ((0, 0, 1), "always"), ((0, 1, 1), "always"), ((0, 1, -1), "state"),
                           ((0, -1, 1), "state"), ((1, -1, 1), "state")]:
            self.check_falls(rules, guard, expression(*told), word)
        # It has to fall where any of the lists holds.
        self.check_falls(rules, guard + ((row("lt", 0, 0, 1),),), expression(0, 0, 1), "state")

    def test_rounds(self):
        """Where a measure falls, the loop ends after at most as many rounds as point 114 says."""
        picker = Picker(114)
        count = 0
        for _ in range(400):
            k = picker.number(1, 2)
            rules = linear_map(picker, k, 2)
            guard = some_guard(picker, k, size=2, rows=2)
            measure = tuple([picker.rational(3, 2) for _ in range(k + 1)])
            answer = self.check_falls(rules, guard, measure)
            if answer[0] == "state":
                now = fractions(answer[1])
                after = step_of(rules, now)
                self.assertTrue(guard_true(guard, now))
                self.assertFalse(dot(measure, now) >= 0 and dot(measure, after) <= dot(measure, now) - 1)
                continue
            self.assertEqual(ends_always(rules, guard)[0], "always")
            for _ in range(5):
                numbers = fractions([picker.rational(9, 2) for _ in range(k)])
                most = dot(measure, numbers) // 1 + 1
                rounds = 0
                while guard_true(guard, numbers):
                    numbers = step_of(rules, numbers)
                    rounds += 1
                    self.assertLessEqual(rounds, max(most, 0))
                count += rounds > 0
        self.assertGreater(count, 5)

    def test_down_counts(self):
        self.check_falls(DOWN, POSITIVE, expression(0, 1), "always")
        program = Program(names=("x",), body=(("while", ("lt", p(1, x=-1)), DOWN),))
        for number, rounds in [(-1, 0), (0, 0), ((1, 2), 1), (1, 1), ((3, 2), 2), (7, 7)]:
            number = r(*number) if isinstance(number, tuple) else r(number)
            self.assertEqual(run_of(program, (number,))[1], ((0, rounds),))
            # The least integer greater than the measure is not less.
            self.assertLessEqual(rounds, max(Fraction(*number) // 1 + 1, 0))

    def test_greatest_numbers(self):
        rules = (p(2, x=20, y=(19, 17), one=20), p(2, y=(-20, 19)))
        guard = ((row("le", (999, 998), (-991, 997), (7, 999)), row("lt", 1, -999, (-999, 997))),)
        self.check_falls(rules, guard, ((999, 998), (-998, 999), (1, 997)))

    def test_near_answers(self):
        for rules, guard, measure in [(DOWN, POSITIVE, expression(0, 1)), (HALF, POSITIVE, expression(0, 1)),
                                      (DOWN, ((row("lt", 0, -1),), (row("eq", -3, 1),)), expression(1, 2))]:
            answer = falls(rules, guard, measure)
            second = falling_guard(rules, measure)
            told = []
            for other in near(answer):
                if isinstance(other, tuple) and len(other) == 2 and isinstance(other[0], str):
                    if isinstance(other[1], tuple):
                        expected = right_implied(len(rules), guard, second, other)
                        check_call(self, expected, accepts_falls, rules, guard, measure, other)
                        # The judge of implications says the same, where the numbers are small.
                        self.assertIs(accepts_implied(len(rules), guard, second, other), expected)
                        told.append(expected)
            self.assertGreater(told.count(False), 10)


class ErrorTests(unittest.TestCase):
    def check_all(self, error, attributes, rules, guard, measure=expression(0, 1)):
        check_error(self, error, attributes, kept, rules, guard)
        check_error(self, error, attributes, falls, rules, guard, measure)
        for answer in [("always", ()), ("state", ((1, 1),))]:
            check_error(self, error, attributes, accepts_kept, rules, guard, answer)
            check_error(self, error, attributes, accepts_falls, rules, guard, measure, answer)

    def test_maps(self):
        for bad in ODD_VALUES + [[p(1, x=1)], (p(1, x=21),), (p(1, x4=1),), (p(2, x=1),), (p(2, x=1),) * 3]:
            if bad != ((),):
                self.check_all(BadValue, {"name": "map"}, bad, POSITIVE)
                self.check_all(BadValue, {"name": "map"}, bad, None, None)
        self.check_all(NotTold, {"reason": REASON}, IRRATIONAL, None, None)
        self.check_all(NotTold, {"reason": ("degree", 1)}, SQUARE, None, None)
        self.check_all(NotTold, {"reason": ("degree", 0)}, (p(2, y2=1), p(2, y=1)), POSITIVE)
        self.check_all(NotTold, {"reason": ("product", 0, ((1, 1), (2,)))}, (p(1, x2=1),), POSITIVE)

    def test_guards(self):
        for bad in bad_guards(1, POSITIVE) + ODD_VALUES:
            self.check_all(BadValue, {"name": "guard"}, DOWN, bad)
            self.check_all(BadValue, {"name": "guard"}, DOWN, bad, None)

    def test_measures(self):
        for bad in ODD_VALUES + [expression(1, 2, 3), expression(1), [(0, 1), (1, 1)], ((1000, 1), (1, 1)),
                                 ((1, 1), (-1000, 1)), ((1, 1), (1, 1000)), ((2, 4), (1, 1)), ((1, 1), (True, 1)),
                                 ((1, 1), 1), row("le", 0, 1)]:
            for guard in (POSITIVE, (TRIPLES,) * 3):
                check_error(self, BadValue, {"name": "measure"}, falls, DOWN, guard, bad)
                check_error(self, BadValue, {"name": "measure"}, accepts_falls, DOWN, guard, bad, ("always", ()))


if __name__ == "__main__":
    unittest.main()
