"""Leads, endless states, and loops that end from every state (points 103 to 112 and 115)."""

import unittest
from fractions import Fraction

from helpers import ODD_VALUES, Picker, check_call, check_error, p, r
from loops import (
    KINDS, all_pairs, bad_guards, endless_slowly, fractions, guard_true, keyed_leads, linear_map, plain_leads,
    right_ending, row, some_guard, step_of,
)
from roundknown.endings import endless_at_last, ends_always, leads, round_of
from roundknown.errors import BadValue, NotTold, TooLarge
from roundknown.futures import forms_of, future_of
from roundknown.layers import why_not
from roundknown.papers import accepts_ending
from roundknown.rounds import rounds_of
from roundknown.watches import first_round, last_round

DOWN = (p(1, x=1, one=-1),)
UP = (p(1, x=1, one=1),)
HALF = (p(1, x=(1, 2)),)
POSITIVE = ((row("lt", 0, -1),),)
SQUARE = (p(2, x=1, one=1), p(2, x2=1))
IRRATIONAL = (p(2, x=1, y=1), p(2, x=1))
REASON = ("irrational", (0, 1), ((-1, 1), (-1, 1), (1, 1)))
TURN = (p(1, x=-1),)


def expression(*numbers):
    return row("le", *numbers)[1]


def states_of(rules, state, count):
    """The states after 0, 1, .. rounds as fractions."""
    found = [fractions(state)]
    while len(found) < count:
        found.append(step_of(rules, found[-1]))
    return found


class LeadsTests(unittest.TestCase):
    def test_examples(self):
        for odd in (False, True):
            check_call(self, [expression(-1, 0), expression(0, 1)], leads, DOWN, expression(0, 1), odd)
            check_call(self, [expression(1, 0), expression(3, -1)], leads, DOWN, expression(3, -1), odd)
            check_call(self, [expression(0, 1)], leads, HALF, expression(0, 1), odd)
            # The base 1 of c0 stands before 1/2.
            check_call(self, [expression(7, 0), expression(0, -2)], leads, HALF, expression(7, -2), odd)

    def test_negative_bases(self):
        check_call(self, [expression(3, 2)], leads, TURN, expression(3, 2), False)
        check_call(self, [expression(3, -2)], leads, TURN, expression(3, 2), True)
        # x and y are exchanged: the bases are 1 and -1, and half of the totals vanishes.
        swap = (p(2, y=1), p(2, x=1))
        check_call(self, [expression(0, 1, 0)], leads, swap, expression(0, 1, 0), False)
        check_call(self, [expression(0, 0, 1)], leads, swap, expression(0, 1, 0), True)
        # c0 meets the base -1: in odd rounds 5 - (5 + ..) is left.
        toward = (p(1, x=-1, one=10),)
        check_call(self, [expression(0, 1)], leads, toward, expression(0, 1), False)
        check_call(self, [expression(10, -1)], leads, toward, expression(0, 1), True)
        check_call(self, [expression(-5, 1)], leads, toward, expression(-5, 1), False)
        check_call(self, [expression(5, -1)], leads, toward, expression(-5, 1), True)
        # The bases 2 and -2 are one absolute value.
        both = (p(2, x=2), p(2, y=-2))
        check_call(self, [expression(0, 1, 1)], leads, both, expression(0, 1, 1), False)
        check_call(self, [expression(0, 1, -1)], leads, both, expression(0, 1, 1), True)
        check_call(self, [expression(0, 1, 1), expression(4, 0, 0)], leads, both, expression(4, 1, 1), False)

    def test_powers(self):
        cubic = (p(3, x=1, one=1), p(3, x=1, y=1), p(3, y=1, z=1))
        expected = [((1, 6), (0, 1), (0, 1), (0, 1)), ((-1, 2), (1, 2), (0, 1), (0, 1)),
                    ((1, 3), (-1, 2), (1, 1), (0, 1)), ((0, 1), (0, 1), (0, 1), (1, 1))]
        check_call(self, expected, leads, cubic, expression(0, 0, 0, 1), False)
        check_call(self, expected, leads, cubic, expression(0, 0, 0, 1), True)
        # A greater absolute value stands before a greater power.
        mixed = (p(2, x=1, one=1), p(2, y=3))
        check_call(self, [expression(0, 0, 1), expression(1, 0, 0), expression(0, 1, 0)],
                   leads, mixed, expression(0, 1, 1), False)

    def test_base_zero(self):
        # x is y after one round, and y is 0: only first values.
        short = (p(2, y=1), ())
        check_call(self, [], leads, short, expression(0, 1, 1), False)
        check_call(self, [], leads, short, expression(0, 1, 1), True)
        check_call(self, [expression(2, 0, 0)], leads, short, expression(2, 1, 1), True)
        fixed = (p(1, one=4),)
        check_call(self, [expression(4, 0)], leads, fixed, expression(0, 1), False)
        check_call(self, [], leads, fixed, expression(-4, 1), False)
        check_call(self, [], leads, fixed, expression(-4, 1), True)

    def test_no_leads(self):
        for rules in (DOWN, HALF, TURN):
            for odd in (False, True):
                check_call(self, [], leads, rules, expression(0, 0), odd)
        # The variables cancel.
        check_call(self, [], leads, (p(2, x=2), p(2, y=2)), expression(0, 0, 0), False)
        same = (p(2, x=1, one=1), p(2, x=1, one=1))
        check_call(self, [], leads, same, expression(0, 1, -1), True)

    def check_total(self, rules, told, start):
        """The total of the leads is the value of the expression in each round."""
        skipped = max([len(form[0]) for form in forms_of(rules)])
        for n, numbers in enumerate(states_of(rules, start, 12)):
            if n >= skipped:
                keyed = keyed_leads(rules, told, n % 2 == 1)
                total = Fraction(0)
                for (size, power), lead in keyed:
                    total += (lead[0] + sum((a * b for a, b in zip(lead[1:], fractions(start))), Fraction(0))
                              ) * size ** n * n ** power
                value = Fraction(*told[0]) + sum((Fraction(*c) * x for c, x in zip(told[1:], numbers)), Fraction(0))
                self.assertEqual(total, value)

    def test_many(self):
        picker = Picker(104)
        lengths = set()
        for _ in range(100):
            k = picker.number(1, 3)
            rules = linear_map(picker, k, *((3, 1), (6, 1), (4, 3))[picker.number(0, 2)])
            told = tuple([picker.rational(5, 3) if picker.number(0, 2) else (0, 1) for _ in range(k + 1)])
            for odd in (False, True):
                expected = plain_leads(rules, told, odd)
                check_call(self, expected, leads, rules, told, odd)
                lengths.add(len(expected))
            self.check_total(rules, told, tuple([picker.rational(9, 4) for _ in range(k)]))
        self.assertEqual(lengths, {0, 1, 2, 3, 4})

    def test_greatest_numbers(self):
        rules = (p(3, x=(19, 20), y=20, z=-20, one=(-17, 19)), p(3, y=(-20, 19), z=(20, 17), one=20),
                 p(3, z=(-19, 20), one=(13, 20)))
        told = ((999, 998), (-999, 997), (991, 999), (1, 999))
        for odd in (False, True):
            check_call(self, plain_leads(rules, told, odd), leads, rules, told, odd)
        self.check_total(rules, told, ((1000, 11), (-999, 7), (1, 12)))

    def test_changed_list(self):
        found = leads(DOWN, expression(0, 1), False)
        found[0] = None
        found.append(None)
        self.assertEqual(leads(DOWN, expression(0, 1), False), [expression(-1, 0), expression(0, 1)])


class EndlessTests(unittest.TestCase):
    def test_each_kind(self):
        # x tends to 0 from one side, is 0, or grows.
        for kind, expected in [("eq", (False, True, False)), ("le", (True, True, False)), ("lt", (True, False, False))]:
            for number, told in zip((-5, 0, 5), expected):
                check_call(self, told, endless_at_last, HALF, ((row(kind, 0, 1),),), (r(number),))
                check_call(self, told, endless_at_last, (p(1, x=3),), ((row(kind, 0, 1),),), (r(number),))
        # From everywhere x grows.
        for kind, told in [("eq", False), ("le", False), ("lt", False)]:
            check_call(self, told, endless_at_last, UP, ((row(kind, 0, 1),),), ((-1000, 1),))
        for kind, told in [("eq", False), ("le", True), ("lt", True)]:
            check_call(self, told, endless_at_last, UP, ((row(kind, 0, -1),),), ((-1000, 1),))

    def test_limits(self):
        # x tends to 2 from below or from above, and never reaches it but from 2.
        toward = (p(1, x=(1, 2), one=1),)
        for number, below, at, above in [(0, True, False, False), (2, False, True, False), (9, False, False, True)]:
            check_call(self, below, endless_at_last, toward, ((row("lt", -2, 1),),), (r(number),))
            check_call(self, at, endless_at_last, toward, ((row("eq", -2, 1),),), (r(number),))
            check_call(self, above, endless_at_last, toward, ((row("lt", 2, -1),),), (r(number),))
            check_call(self, below or at, endless_at_last, toward, ((row("le", -2, 1),),), (r(number),))

    def test_lists_of_even_and_odd_rounds(self):
        # x changes its sign in each round.
        growing = (p(1, x=-2),)
        positive, negative = (row("lt", 0, -1),), (row("lt", 0, 1),)
        for number in (3, -3):
            check_call(self, False, endless_at_last, growing, (positive,), (r(number),))
            check_call(self, False, endless_at_last, growing, (negative,), (r(number),))
            check_call(self, True, endless_at_last, growing, (positive, negative), (r(number),))
            check_call(self, True, endless_at_last, growing, (negative, positive), (r(number),))
        check_call(self, False, endless_at_last, growing, (positive, negative), ((0, 1),))
        check_call(self, True, endless_at_last, growing, (positive, negative, (row("eq", 0, 1),)), ((0, 1),))
        # In even rounds x is 1 and in odd ones 4, or the other way round.
        other = (p(1, x=-1, one=5),)
        one, four = (row("eq", -1, 1),), (row("eq", -4, 1),)
        for number, told in [(1, True), (4, True), (2, False)]:
            check_call(self, told, endless_at_last, other, (one, four), (r(number),))
            check_call(self, told, endless_at_last, other, (four, one), (r(number),))
            check_call(self, False, endless_at_last, other, (one,), (r(number),))
            check_call(self, False, endless_at_last, other, (one + four,), (r(number),))

    def test_lines_without_leads(self):
        # From round 1 on, x is 4.
        fixed = (p(1, one=4),)
        for kind, told in [("eq", True), ("le", True), ("lt", False)]:
            check_call(self, told, endless_at_last, fixed, ((row(kind, -4, 1),),), ((0, 1),))
            check_call(self, told, endless_at_last, UP, ((row(kind, 0, 0),),), ((0, 1),))
        # All leads are 0 in this state only.
        for kind, told in [("eq", True), ("le", True), ("lt", False)]:
            check_call(self, told, endless_at_last, (p(2, x=2), p(2, y=2)), ((row(kind, 0, 1, -1),),), ((3, 1), (3, 1)))

    def test_all_rows_of_a_list(self):
        rules = (p(2, x=2), p(2, y=1, one=1))
        for state, told in [((1, 1), True), ((0, 1), False), ((-1, 1), False)]:
            guard = ((row("lt", 0, -1, 0), row("lt", 0, 0, -1)),)
            check_call(self, told, endless_at_last, rules, guard, tuple([r(n) for n in state]))
            check_call(self, True, endless_at_last, rules, ((guard[0][0],), (guard[0][1],)),
                       tuple([r(n) for n in state]))

    def test_many(self):
        """Rounds 60 to 79 tell it for small integers."""
        picker = Picker(107)
        told = []
        for _ in range(160):
            k = picker.number(1, 3)
            rules = linear_map(picker, k, 2)
            guard = some_guard(picker, k, size=2, rows=2)
            state = tuple([picker.rational(4, 1) for _ in range(k)])
            late = states_of(rules, state, 80)[60:]
            expected = all(guard_true(guard, numbers) for numbers in late)
            check_call(self, expected, endless_at_last, rules, guard, state)
            self.assertEqual(endless_slowly(rules, guard, fractions(state)), expected)
            told.append(expected)
        self.assertGreater(told.count(True), 30)
        self.assertGreater(told.count(False), 30)


class RoundTests(unittest.TestCase):
    def check_round(self, rules, guard, state, rounds=60):
        """The least round from which on the guard holds, compared with the states round by round."""
        found = round_of(rules, guard, state)
        self.assertEqual(found is not None, endless_at_last(rules, guard, state))
        if found is not None:
            self.assertIs(type(found), int)
            held = [guard_true(guard, numbers) for numbers in states_of(rules, state, found + rounds)]
            self.assertTrue(all(held[found:]), (rules, guard, state, found))
            self.assertTrue(found == 0 or not held[found - 1], (rules, guard, state, found))
        return found

    def test_examples(self):
        check_call(self, 0, round_of, HALF, POSITIVE, ((1, 1),))
        check_call(self, None, round_of, DOWN, POSITIVE, ((1, 1),))

    def test_late_rounds(self):
        for number, expected in [(-7, 8), (-1, 2), (0, 1), (1, 0), (5, 0), ((-15, 2), 8), (-1000, 1001)]:
            state = (r(*number) if isinstance(number, tuple) else r(number),)
            check_call(self, expected, round_of, UP, POSITIVE, state)
            self.check_round(UP, POSITIVE, state)
        # It holds in round 0, then not, then for ever: (n - 2) (n - 5) is greater than 0, or n is 0.
        rules = (p(2, x=1, one=1), p(2, y=1, x=2, one=-6))
        guard = ((row("lt", 0, 0, -1),),)
        check_call(self, 6, round_of, rules, guard, ((0, 1), (10, 1)))
        self.check_round(rules, guard, ((0, 1), (10, 1)))
        # In the even rounds from round 4 on, in the odd rounds from round 9 on.
        rules = (p(2, x=-1), p(2, y=1, one=1))
        guard = ((row("lt", 3, -5, -1), row("lt", 0, -1, 0)), (row("lt", 8, 0, -1), row("lt", 0, 1, 0)))
        check_call(self, 8, round_of, rules, guard, ((1, 1), (0, 1)))
        self.check_round(rules, guard, ((1, 1), (0, 1)))

    def test_far_rounds(self):
        # x is n, and n / 999 is at least 999, or n * (n - 1) / 2 at least 999 n.
        guard = ((row("le", 999, (-1, 999)),),)
        check_call(self, 998001, round_of, UP, guard, ((0, 1),))
        check_call(self, 998002, round_of, UP, ((row("lt", 999, (-1, 999)),),), ((0, 1),))
        rules = (p(2, x=1, one=1), p(2, x=1, y=1))
        check_call(self, 1999, round_of, rules, ((row("le", 0, 999, -1),),), ((0, 1), (0, 1)))

    def test_many(self):
        picker = Picker(112)
        found = []
        for _ in range(250):
            k = picker.number(1, 3)
            rules = linear_map(picker, k, 2)
            guard = some_guard(picker, k, size=3, rows=2)
            state = tuple([picker.rational(30, 2) for _ in range(k)])
            try:
                found.append(self.check_round(rules, guard, state))
            except TooLarge as error:
                self.assertEqual(error.what, "small")
        self.assertGreater(found.count(None), 40)
        self.assertGreater(found.count(0), 30)
        self.assertGreater(len([n for n in found if n]), 15)
        self.assertGreater(len(set(found)), 6)

    def test_rounds_of_agrees(self):
        for guard, condition in [
            (((row("le", 5, -1, 0), row("lt", -20, 1, 1)),),
             ("and", (("le", p(2, x=-1, one=5)), ("lt", p(2, x=1, y=1, one=-20))))),
            (((row("eq", 4, 0, 1),), (row("le", 5, -1, 0),)),
             ("or", (("eq", p(2, y=1, one=4)), ("le", p(2, x=-1, one=5))))),
        ]:
            for rules in [(p(2, x=1, one=1), p(2, y=-1, one=3)), (p(2, x=1, one=1), p(2, y=1, x=-1))]:
                for state in [((0, 1), (0, 1)), ((-9, 1), (7, 1)), ((5, 1), (-4, 1))]:
                    rounds = rounds_of(rules, state, ("not", condition))
                    expected = None
                    if endless_at_last(rules, guard, state):
                        expected = 0 if first_round(rounds) is None else last_round(rounds) + 1
                    check_call(self, expected, round_of, rules, guard, state)

    def test_too_large(self):
        # The base is 9: not a small form, but a state that is endless at last.
        fast = (p(1, x=9),)
        check_error(self, TooLarge, {"what": "small"}, round_of, fast, POSITIVE, ((1, 1),))
        check_call(self, None, round_of, fast, POSITIVE, ((-1, 1),))
        check_call(self, None, round_of, fast, POSITIVE, ((0, 1),))
        check_call(self, True, endless_at_last, fast, POSITIVE, ((1, 1),))
        # From 0 the form is 0, which is small.
        check_call(self, 0, round_of, fast, ((row("le", 0, 1),),), ((0, 1),))
        # Each row counts, in whichever list it stands.
        pair = (p(2, x=1, one=1), p(2, y=9))
        good, bad = row("lt", 0, -1, 0), row("lt", 0, 0, -1)
        state = ((0, 1), (1, 1))
        check_call(self, 1, round_of, pair, ((good,),), state)
        for guard in [((good,), (bad,)), ((bad,), (good,)), ((good, bad),), ((good,), (good, good, bad), (good,))]:
            check_error(self, TooLarge, {"what": "small"}, round_of, pair, guard, state)
        check_call(self, 1, round_of, pair, ((good,), (bad,)), ((0, 1), (0, 1)))
        # The least common denominator of the coefficients, 998, times 998 + 999000 / 998 is more than a million.
        check_error(self, TooLarge, {"what": "small"}, round_of, UP, ((row("le", 998, (-999, 998)),),), ((-1000, 1),))
        thin = (p(1, x=(1, 9)),)
        check_error(self, TooLarge, {"what": "small"}, round_of, thin, ((row("le", -1, 1),),), ((1, 1),))
        check_call(self, None, round_of, thin, ((row("lt", 1, 0),),), ((1, 1),))


class AlwaysTests(unittest.TestCase):
    def check_ending(self, rules, guard, word=None):
        answer = ends_always(rules, guard)
        self.assertTrue(right_ending(rules, guard, answer), (rules, guard, answer))
        check_call(self, True, accepts_ending, rules, guard, answer)
        self.assertEqual(ends_always(rules, guard), answer)
        if answer[0] == "always":
            self.assertEqual(len(answer[1]), len(all_pairs(guard)))
        if word is not None:
            self.assertEqual(answer[0], word)
        return answer

    def test_examples(self):
        self.check_ending(DOWN, POSITIVE, "always")
        self.check_ending(HALF, POSITIVE, "never")

    def test_one_variable(self):
        for rules, word in [(UP, "never"), (TURN, "always"), ((p(1, x=-2, one=1),), "never"), ((p(1, one=5),), "never"),
                            ((p(1, one=-5),), "always"), ((p(1, x=2, one=-1),), "never"), (((),), "always")]:
            self.check_ending(rules, POSITIVE, word)
        self.check_ending(TURN, POSITIVE + ((row("lt", 0, 1),),), "never")
        self.check_ending(TURN, ((row("le", 0, -1),),), "never")
        # From 1/3, x stays 1/3.
        self.assertEqual(ends_always((p(1, x=-2, one=1),), ((row("eq", -1, 3),),)), ("never", ((1, 3),)))
        self.check_ending((p(1, x=-2, one=1),), ((row("lt", -1, 3),),), "always")
        self.check_ending((p(1, x=-2, one=1),), ((row("lt", -1, 3),), (row("lt", 1, -3),)), "never")

    def test_ends(self):
        """Papers with both kinds of ends, and without and with raised lines."""
        # The guard is never true of a row without leads.
        self.assertEqual(ends_always(UP, ((row("lt", 0, 0),),)), ("always", (((), ("strict", 0)),)))
        self.assertEqual(ends_always((p(1, one=4),), ((row("le", 0, 0), row("lt", -4, 1)),)),
                         ("always", (((), ("strict", 1)),)))
        # x is at most 0 and at least 0 at last, so a strict line is raised to its end.
        rules = (p(1, x=2),)
        for guard in [((row("lt", 0, 1), row("le", 0, -1)),), ((row("le", 0, -1), row("lt", 0, 1)),)]:
            answer = self.check_ending(rules, guard, "always")
            self.assertEqual(answer[1][0][1][0], "strict")
            self.assertGreaterEqual(len(answer[1][0][0]), 1)
        answer = self.check_ending(DOWN, POSITIVE, "always")
        self.assertEqual([paper[1][0] for paper in answer[1]], ["one"])

    def test_raised_several_times(self):
        # y - x and x - y are at least 0, then the next leads of both count, and so on.
        rules = (p(3, x=1, one=1), p(3, x=1, y=1), p(3, y=1, z=1))
        guard = ((row("eq", 0, 0, 0, 1),),)
        answer = self.check_ending(rules, guard, "always")
        rules = (p(3, x=3), p(3, y=2), p(3, z=1, one=-1))
        guard = ((row("le", 0, 1, 1, 1), row("le", 0, -1, 0, 0), row("le", 0, 0, -1, 0)),)
        answer = self.check_ending(rules, guard, "never")
        guard = ((row("le", 0, 1, 1, -1), row("le", 0, -1, 0, 0), row("le", 0, 0, -1, 0)),)
        answer = self.check_ending(rules, guard, "always")
        self.assertGreaterEqual(len(answer[1][0][0]), 2)
        guard = ((row("lt", 0, 1, 1, 0), row("le", 0, -1, 0, 0), row("le", 0, 0, -1, 0)),)
        answer = self.check_ending(rules, guard, "always")
        self.assertEqual(answer[1][0][1][0], "strict")
        self.assertGreaterEqual(len(answer[1][0][0]), 2)

    def test_several_lists(self):
        # x changes its sign in each round, so only lists with both signs hold at last.
        rules = (p(1, x=-3),)
        positive, negative, zero = (row("lt", 0, -1),), (row("lt", 0, 1),), (row("eq", 0, 1),)
        for guard, word in [((positive,), "always"), ((positive, negative), "never"), ((positive, positive), "always"),
                            ((positive, positive, positive), "always"), ((positive, zero), "never"),
                            ((positive + negative, positive), "always"), ((positive, positive, negative), "never")]:
            self.check_ending(rules, guard, word)
        self.assertEqual(ends_always(rules, (positive, zero)), ("never", ((0, 1),)))

    def test_many(self):
        picker = Picker(111)
        answers = []
        for _ in range(180):
            k = picker.number(1, 3)
            rules = linear_map(picker, k, *((3, 1), (3, 1), (4, 3))[picker.number(0, 2)])
            kinds = (KINDS, ("le", "lt"), ("eq",))[picker.number(0, 2)]
            guard = some_guard(picker, k, size=picker.number(1, 3), kinds=kinds, rows=picker.number(1, 3))
            answers.append(self.check_ending(rules, guard))
        words = [answer[0] for answer in answers]
        self.assertGreater(words.count("always"), 40)
        self.assertGreater(words.count("never"), 40)
        papers = [paper for word, content in answers if word == "always" for paper in content]
        for end in ("strict", "one"):
            self.assertGreater([paper[1][0] for paper in papers].count(end), 10)
        for count in (0, 1, 2, 4):
            self.assertIn(count, [len(paper[0]) for paper in papers])

    def test_never_states(self):
        """From a state that is told, enough rounds lead to one from which the guard always holds."""
        picker = Picker(103)
        count = 0
        while count < 60:
            k = picker.number(1, 3)
            rules = linear_map(picker, k, 2)
            guard = some_guard(picker, k, size=2, rows=2)
            word, content = ends_always(rules, guard)
            if word == "never":
                count += 1
                self.assertTrue(all(guard_true(guard, numbers) for numbers in states_of(rules, content, 90)[70:]))

    def test_greatest_numbers(self):
        rules = (p(3, x=(19, 20), y=20, z=-20, one=(-17, 19)), p(3, y=(-20, 19), z=(20, 17), one=20),
                 p(3, z=(-19, 20), one=(13, 20)))
        rows = tuple([row(KINDS[i], (999 - i, 998), (-997, 999 - i), (1, 999), (991, 7 + i)) for i in range(3)])
        self.check_ending(rules, (rows, rows[::-1], rows[1:]))


class ErrorTests(unittest.TestCase):
    def check_all(self, error, attributes, rules, guard, state, told=expression(0, 1)):
        check_error(self, error, attributes, leads, rules, told, False)
        check_error(self, error, attributes, ends_always, rules, guard)
        check_error(self, error, attributes, endless_at_last, rules, guard, state)
        check_error(self, error, attributes, round_of, rules, guard, state)

    def test_maps(self):
        for bad in ODD_VALUES + [[p(1, x=1)], (p(1, x=21),), (p(1, x4=1),), (p(2, x=1),), (p(2, x=1),) * 3]:
            if bad != ((),):
                for rest in [(POSITIVE, ((1, 1),)), (None, None)]:
                    self.check_all(BadValue, {"name": "map"}, bad, *rest, told=rest[1])
        product = (p(1, x2=1),)
        self.check_all(NotTold, {"reason": ("product", 0, ((1, 1), (2,)))}, product, None, None, None)
        self.check_all(NotTold, {"reason": REASON}, IRRATIONAL, None, None, None)
        # A map that is not told has no degrees yet.
        both = (p(3, x=1, y=1, z2=1), p(3, x=1), p(3, z=1))
        self.check_all(NotTold, {"reason": REASON}, both, None, None, None)

    def test_degrees(self):
        self.assertIsNone(why_not(SQUARE))
        self.check_all(NotTold, {"reason": ("degree", 1)}, SQUARE, None, None, None)
        for i, rules in [(0, (p(3, y2=1), p(3, z3=1), p(3, z=1))), (0, (p(2, y3=1), p(2, y=1))),
                         (1, (p(3, x=1), p(3, x=1, z2=1), p(3, z=1))), (2, (p(3, x=1), p(3, y=1), p(3, x=1, x1y1=1)))]:
            self.assertIsNone(why_not(rules))
            self.check_all(NotTold, {"reason": ("degree", i)}, rules, POSITIVE, ((1, 1),))

    def test_guards(self):
        for bad in bad_guards(1, POSITIVE) + ODD_VALUES:
            check_error(self, BadValue, {"name": "guard"}, ends_always, DOWN, bad)
            for state in [((1, 1),), None]:
                check_error(self, BadValue, {"name": "guard"}, endless_at_last, DOWN, bad, state)
                check_error(self, BadValue, {"name": "guard"}, round_of, DOWN, bad, state)
        for rules in [(p(2, x=1),) * 2, (p(3, x=1),) * 3]:
            check_error(self, BadValue, {"name": "guard"}, ends_always, rules, POSITIVE)

    def test_states(self):
        odd = [odd for odd in ODD_VALUES if odd != ((1, 2),)]
        for bad in odd + [((1001, 1),), ((-1001, 1),), ((1, 13),), ((1, 1), (1, 1)), ((2, 2),), [(1, 1)], (1,),
                                 ((True, 1),), (1, 1)]:
            check_error(self, BadValue, {"name": "state"}, endless_at_last, DOWN, POSITIVE, bad)
            check_error(self, BadValue, {"name": "state"}, round_of, DOWN, POSITIVE, bad)
            check_error(self, BadValue, {"name": "state"}, round_of, (p(1, x=9),), POSITIVE, bad)

    def test_expressions(self):
        for bad in ODD_VALUES + [expression(1, 2, 3), expression(1), [(0, 1), (1, 1)], ((1000, 1), (1, 1)),
                                 ((1, 1), (-1000, 1)), ((1, 1), (1, 1000)), ((2, 4), (1, 1)), ((1, 1), (True, 1)),
                                 ((1, 1), 1), row("le", 0, 1)]:
            for odd in (False, True):
                check_error(self, BadValue, {"name": "expression"}, leads, DOWN, bad, odd)
        leads(DOWN, ((999, 998), (-999, 998)), True)

    def test_future_is_told(self):
        """The states of round_of start at a state of a map, whose future is told."""
        self.assertEqual(future_of(UP, ((-1, 1),))[0], ((), (((1, 1), 0, (-1, 1)), ((1, 1), 1, (1, 1)))))


if __name__ == "__main__":
    unittest.main()
