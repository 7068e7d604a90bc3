"""Watches and far states (points 68 to 74)."""

import unittest

from helpers import ODD_VALUES, Picker, check_call, check_error, p
from roundknown.conditions import holds, is_condition
from roundknown.errors import BadValue, NotTold, RoundError, TooLarge
from roundknown.futures import future_of
from roundknown.layers import why_not
from roundknown.maps import after_rounds, is_map
from roundknown.rounds import complement, is_in, rounds_of
from roundknown.watches import count_rounds, first_round, last_round, next_round, state_after, state_at, take_rounds
from test_conditions import some_condition
from test_futures import layered_map
from test_rounds import ALL, NONE, SOME, made_of, near_sets, striped

ONE = (1, 1)
LAST = 10 ** 40
EVEN_ONLY = (((0, True),), ((1, False),))
FALLING = (p(2, x=2, y=1), p(2, y=1, one=-1))
START = ((1, 1), (10, 1))
TURNING = (p(1, x=-1),)


class WatchTests(unittest.TestCase):
    def test_examples(self):
        check_call(self, 4, first_round, SOME)
        check_call(self, 8, next_round, SOME, 7)
        check_call(self, [5, 6, 7, 8], take_rounds, SOME, 5, 4)
        check_call(self, 2, last_round, (((0, True), (4, False)), ((1, False),)))
        check_call(self, 2, count_rounds, (((0, True), (4, False)), ((1, False),)))
        check_call(self, None, last_round, SOME)
        check_call(self, None, count_rounds, SOME)

    def test_none_and_all(self):
        for n in (0, 1, 400, LAST - 1, LAST):
            check_call(self, None, next_round, NONE, n)
            check_call(self, n + 1, next_round, ALL, n)
            check_call(self, [], take_rounds, NONE, n, 1000)
            check_call(self, [n, n + 1, n + 2], take_rounds, ALL, n, 3)
            check_call(self, n + 2 - n % 2, next_round, EVEN_ONLY, n)
            check_call(self, n + 1 + n % 2, next_round, complement(EVEN_ONLY), n)
        check_call(self, None, first_round, NONE)
        check_call(self, 0, first_round, ALL)
        check_call(self, None, last_round, NONE)
        check_call(self, 0, count_rounds, NONE)
        check_call(self, 0, first_round, EVEN_ONLY)
        check_call(self, 1, first_round, complement(EVEN_ONLY))
        for rounds in (ALL, EVEN_ONLY, complement(EVEN_ONLY)):
            check_call(self, None, last_round, rounds)
            check_call(self, None, count_rounds, rounds)

    def test_infinite_in_one_kind(self):
        rounds = (((0, False), (8, True), (12, False)), ((1, False), (21, True)))
        check_call(self, 8, first_round, rounds)
        check_call(self, 10, next_round, rounds, 8)
        check_call(self, 21, next_round, rounds, 10)
        check_call(self, None, last_round, rounds)
        check_call(self, None, count_rounds, rounds)
        check_call(self, [8, 10, 21, 23], take_rounds, rounds, 0, 4)
        rounds = (((0, False), (20, True)), ((1, True), (5, False)))
        check_call(self, [1, 3, 20, 22], take_rounds, rounds, 0, 4)
        check_call(self, None, last_round, rounds)
        check_call(self, 3, last_round, (((0, False),), ((1, True), (5, False))))

    def test_against_membership(self):
        picker = Picker(69)
        for _ in range(150):
            members = {n for n in range(30) if picker.number(0, 3) == 0}
            rounds = made_of(members, 30)
            check_call(self, min(members, default=None), first_round, rounds)
            check_call(self, max(members, default=None), last_round, rounds)
            check_call(self, len(members), count_rounds, rounds)
            for n in range(34):
                check_call(self, min([m for m in members if m > n], default=None), next_round, rounds, n)
            n, count = picker.number(0, 33), picker.number(0, 12)
            check_call(self, sorted(m for m in members if m >= n)[:count], take_rounds, rounds, n, count)
            check_call(self, sorted(members), take_rounds, rounds, 0, 1000)
            self.check_meeting(rounds, members)
            rest = complement(rounds)
            check_call(self, None, last_round, rest)
            check_call(self, None, count_rounds, rest)
            check_call(self, sorted(set(range(1100)) - members)[:1000], take_rounds, rest, 0, 1000)

    def check_meeting(self, rounds, members):
        """Point 72: first_round and then next_round meet every round once."""
        met = []
        n = first_round(rounds)
        while n is not None:
            met.append(n)
            n = next_round(rounds, n)
        self.assertEqual(met, sorted(members))

    def test_far_rounds(self):
        far = (((0, False), (LAST - 4, True), (LAST - 2, False), (LAST, True)), ((1, False),))
        check_call(self, LAST - 4, first_round, far)
        check_call(self, LAST - 4, next_round, far, 7)
        check_call(self, LAST, next_round, far, LAST - 4)
        check_call(self, LAST, next_round, far, LAST - 1)
        check_call(self, LAST + 2, next_round, far, LAST)
        check_call(self, [LAST - 4, LAST, LAST + 2], take_rounds, far, 0, 3)
        check_call(self, [LAST, LAST + 2], take_rounds, far, LAST, 2)
        ends = (((0, True), (LAST, False)), ((1, True), (LAST - 1, False)))
        check_call(self, LAST - 2, last_round, ends)
        check_call(self, LAST - 1, count_rounds, ends)
        check_call(self, LAST - 2, next_round, ends, LAST - 3)
        for n in (LAST - 2, LAST - 1, LAST):
            check_call(self, None, next_round, ends, n)
        check_call(self, [LAST - 3, LAST - 2], take_rounds, ends, LAST - 3, 1000)

    def test_take(self):
        for count in (0, 1, 999, 1000):
            check_call(self, list(range(4, 4 + 2 * count, 2)), take_rounds, EVEN_ONLY, 3, count)
            check_call(self, list(range(7, 7 + count)), take_rounds, ALL, 7, count)
        wide = (striped(1000), striped(1000, 1, False))
        members = [n for n in range(4100) if is_in(wide, n)][:1000]
        check_call(self, members, take_rounds, wide, 0, 1000)
        check_call(self, 3994, last_round, (striped(1000), ((1, False),)))
        check_call(self, 1000, count_rounds, (striped(1000), ((1, False),)))

    def test_argument_errors(self):
        for bad in list(near_sets(SOME)) + ODD_VALUES + [(striped(1001), ((1, True),))]:
            for call in (first_round, last_round, count_rounds):
                check_error(self, BadValue, {"name": "rounds"}, call, bad)
            check_error(self, BadValue, {"name": "rounds"}, next_round, bad, -1)
            check_error(self, BadValue, {"name": "rounds"}, take_rounds, bad, None, None)
        for bad in [True, False, None, -1, LAST + 1, "1", (1,), 1.0]:
            check_error(self, BadValue, {"name": "n"}, next_round, SOME, bad)
            check_error(self, BadValue, {"name": "n"}, take_rounds, SOME, bad, None)
        for bad in [True, False, None, -1, 1001, "1", (1,), 1.0, LAST]:
            check_error(self, BadValue, {"name": "count"}, take_rounds, SOME, 0, bad)


class StateTests(unittest.TestCase):
    def test_example(self):
        check_call(self, ((20482, 1), (-1, 1)), state_at, FALLING, START, 11)
        for n in range(30):
            check_call(self, after_rounds(FALLING, START, n), state_at, FALLING, START, n)

    def test_against_rounds(self):
        picker = Picker(73)
        done = 0
        while done < 120:
            rules = layered_map(picker)
            if why_not(rules) is not None:
                continue
            state = tuple([picker.rational(9, 4) for _ in rules])
            done += 1
            for n in list(range(6)) + [picker.number(6, 60)]:
                self.check_same(rules, state, n)

    def check_same(self, rules, state, n):
        try:
            future_of(rules, state)
        except TooLarge:
            check_error(self, TooLarge, {"what": "form"}, state_at, rules, state, n)
            return
        try:
            expected = after_rounds(rules, state, n)
        except TooLarge:
            # Some state on the way is too large, and perhaps the last one is not.
            return
        self.assertEqual(state_at(rules, state, n), expected)

    def test_far_states(self):
        for n in (0, 1, 400, 401, 10 ** 6 + 1, LAST - 1, LAST):
            worth = -5 if n % 2 else 5
            check_call(self, ((worth, 3),), state_at, TURNING, ((5, 3),), n)
            check_call(self, ((2 * n - 7, 2),), state_at, (p(1, x=1, one=1),), ((-7, 2),), n)
        steps = (p(3, x=1, one=1), p(3, y=1, x=1), p(3, z=-1))
        for n in (400, 401, LAST - 1, LAST):
            expected = ((n, 1), (n * (n - 1) // 2, 1), ((-1) ** (n % 2) * 3, 1))
            check_call(self, expected, state_at, steps, ((0, 1), (0, 1), (3, 1)), n)
        # Without terms there is no base at all.
        check_call(self, ((0, 1),), state_at, ((),), ((5, 1),), LAST)
        check_call(self, ((5, 1),), state_at, ((),), ((5, 1),), 0)
        check_call(self, ((0, 1), (7, 1)), state_at, (p(2, x=2), p(2, y=1)), ((0, 1), (7, 1)), LAST)

    def test_bases(self):
        for rule in [p(1, x=2), p(1, x=-2), p(1, x=(1, 2)), p(1, x=(-2, 3))]:
            state_at((rule,), ((1, 1),), 400)
            check_error(self, TooLarge, {"what": "numbers"}, state_at, (rule,), ((1, 1),), 401)
            check_error(self, TooLarge, {"what": "numbers"}, state_at, (rule,), ((1, 1),), LAST)
            check_call(self, ((0, 1),), state_at, (rule,), ((0, 1),), 401)
        # One variable is enough.
        both = (p(2, x=1), p(2, y=2))
        check_error(self, TooLarge, {"what": "numbers"}, state_at, both, ((1, 1), (1, 1)), 401)
        check_error(self, TooLarge, {"what": "numbers"}, state_at, (p(2, x=2), p(2, y=1)), ((1, 1), (1, 1)), 401)
        check_call(self, ((1, 1), (2 ** 400, 1)), state_at, both, ((1, 1), (1, 1)), 400)

    def test_digits(self):
        for rule in [p(1, x=10), p(1, x=-10), p(1, x=(1, 10)), p(1, x=(-1, 10))]:
            number = state_at((rule,), ((1, 1),), 399)[0]
            self.assertEqual(max(abs(number[0]), number[1]), 10 ** 399)
            check_error(self, TooLarge, {"what": "numbers"}, state_at, (rule,), ((1, 1),), 400)
            longer = ((10, 1),) if rule[0][0][1] == 1 else ((1, 10),)
            check_error(self, TooLarge, {"what": "numbers"}, state_at, (rule,), longer, 399)
        twenty = (p(2, x=20), p(2, y=1))
        self.assertEqual(len(str(20 ** 307)), 400)
        check_call(self, ((20 ** 307, 1), (1, 1)), state_at, twenty, ((1, 1), (1, 1)), 307)
        check_error(self, TooLarge, {"what": "numbers"}, state_at, twenty, ((1, 1), (1, 1)), 308)
        check_error(self, TooLarge, {"what": "numbers"}, state_at, twenty, ((1, 1), (1, 1)), 400)
        # Far away, too, the numbers are limited.
        form = ((), ((ONE, 8, (10 ** 59, 1)),))
        self.assertEqual(state_after((form,), LAST), ((10 ** 379, 1),))
        tall = tuple([(ONE, place, (1, 10 ** 59 + place)) for place in range(9)])
        with self.assertRaises(TooLarge) as caught:
            state_after((((), tall),), LAST)
        self.assertEqual(caught.exception.what, "numbers")

    def test_form_comes_first(self):
        wide = (p(3, x=20), p(3, y=(19, 20), x3=1), p(3, z=(1, 19), x3y3=1, y3=1, x2y3=1, y2=1, xy=1))
        start = ((999, 11), (-997, 7), (991, 12))
        for n in (0, 1, 400, 401, LAST):
            check_error(self, TooLarge, {"what": "form"}, state_at, wide, start, n)

    def test_errors(self):
        for bad in [odd for odd in ODD_VALUES if not is_map(odd)] + [list(FALLING), (p(2, x4=1), p(2, y=1))]:
            check_error(self, BadValue, {"name": "map"}, state_at, bad, None, None)
        for bad in ODD_VALUES + [list(START), START[:1], ((1001, 1), (0, 1)), ((0, 1), (1, 13))]:
            check_error(self, BadValue, {"name": "state"}, state_at, FALLING, bad, -1)
        for bad in [True, False, None, -1, LAST + 1, "1", (1,), 1.0]:
            check_error(self, BadValue, {"name": "n"}, state_at, FALLING, START, bad)
            check_error(self, BadValue, {"name": "n"}, state_at, (p(1, x2=1),), ((0, 1),), bad)
        reason = ("product", 0, ((1, 1), (2,)))
        check_error(self, NotTold, {"reason": reason}, state_at, (p(1, x2=1),), ((0, 1),), 0)
        reason = ("irrational", (0, 1), ((-1, 1), (-1, 1), (1, 1)))
        fibonacci = (p(2, x=1, y=1), p(2, x=1))
        check_error(self, NotTold, {"reason": reason}, state_at, fibonacci, ((0, 1), (1, 1)), LAST)

    def test_conditions(self):
        """Point 74."""
        picker = Picker(74)
        done = 0
        while done < 40:
            rules = layered_map(picker)
            k = len(rules)
            condition = some_condition(picker, k, 3)
            if why_not(rules) is not None or not is_condition(k, condition):
                continue
            state = tuple([picker.rational(9, 3) for _ in range(k)])
            for n in [picker.number(0, 400), picker.number(0, LAST)]:
                try:
                    rounds = rounds_of(rules, state, condition)
                    numbers = state_at(rules, state, n)
                except RoundError:
                    continue
                done += 1
                self.assertIs(is_in(rounds, n), holds(condition, numbers))


if __name__ == "__main__":
    unittest.main()
