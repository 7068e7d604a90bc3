"""Guards, ways to deny them, and implications (points 99 to 102)."""

import unittest
from fractions import Fraction

from helpers import ODD_VALUES, Picker, check_call, check_error, r
from loops import (
    KINDS, all_ways, bad_guards, fractions, guard_true, near, right_implied, row, row_true, some_guard,
)
from roundknown.errors import BadValue, TooLarge
from roundknown.implications import accepts_implied, guard_holds, implied, ways

POSITIVE = ((row("lt", 0, -1),),)
SOME = ((row("le", -3, 1),), (row("eq", -7, 1), row("lt", 5, -1)))


def guard_of_kind(kind, lists, rows):
    """A guard over one variable with rows of one kind."""
    return tuple([tuple([row(kind, i - 2 * j, 1 - 2 * (i % 2)) for j in range(rows)]) for i in range(lists)])


class HoldTests(unittest.TestCase):
    def test_one_row(self):
        for kind, told in [("eq", (False, True, False)), ("le", (True, True, False)), ("lt", (True, False, False))]:
            for number, expected in zip((-1, 0, 1), told):
                check_call(self, expected, guard_holds, ((row(kind, 0, 1),),), (r(number, 10 ** 60),))

    def test_lists_and_rows(self):
        # Each list tells an interval; within a list all rows count, of the lists one is enough.
        guard = ((row("le", 1, -1), row("lt", -3, 1)), (row("eq", -5, 1),), (row("lt", 8, -1), row("le", -9, 1)))
        expected = {0: False, 1: True, 2: True, 3: False, 4: False, 5: True, 6: False, 8: False, 9: True, 10: False}
        for number, told in expected.items():
            check_call(self, told, guard_holds, guard, (r(number),))
            check_call(self, told, guard_holds, guard[::-1], (r(number),))
        for count in (1, 2, 3):
            for number in range(11):
                check_call(self, guard_true(guard[:count], [Fraction(number)]), guard_holds, guard[:count],
                           (r(number),))

    def test_many(self):
        picker = Picker(99)
        told = []
        for _ in range(600):
            k = picker.number(1, 3)
            guard = some_guard(picker, k)
            state = tuple([picker.rational(6, 3) for _ in range(k)])
            rows = [[row_true(item, fractions(state)) for item in items] for items in guard]
            expected = any([all(items) for items in rows])
            check_call(self, expected, guard_holds, guard, state)
            told.append(expected)
        self.assertGreater(told.count(True), 100)
        self.assertGreater(told.count(False), 100)


class WaysTests(unittest.TestCase):
    def test_each_kind(self):
        check_call(self, [(row("le", -1, 2, (-3, 4)),)], ways, 2, ((row("lt", 1, -2, (3, 4)),),))
        check_call(self, [(row("lt", -1, 2, 0),)], ways, 2, ((row("le", 1, -2, 0),),))
        check_call(self, [(row("lt", 1, -2),), (row("lt", -1, 2),)], ways, 1, ((row("eq", 1, -2),),))

    def test_order(self):
        guard = ((row("eq", 1, 1), row("le", 2, 1)), (row("lt", 3, 1),), (row("le", 4, 1), row("eq", 5, 1)))
        first = [row("lt", 1, 1), row("lt", -1, -1), row("lt", -2, -1)]
        last = [row("lt", -4, -1), row("lt", 5, 1), row("lt", -5, -1)]
        expected = [(a, row("le", -3, -1), b) for a in first for b in last]
        check_call(self, expected, ways, 1, guard)
        self.assertEqual(len(expected), 9)
        for kind in KINDS:
            for lists in (1, 2, 3):
                for rows in (1, 2, 3):
                    guard = guard_of_kind(kind, lists, rows)
                    if (2 if kind == "eq" else 1) * rows > 4 and lists == 3:
                        check_error(self, TooLarge, {"what": "ways"}, ways, 1, guard)
                    else:
                        check_call(self, all_ways(guard), ways, 1, guard)

    def test_many_ways(self):
        double = (row("eq", 1, 1), row("eq", 2, 1))
        triple = (row("eq", 1, 1), row("eq", 2, 1), row("le", 3, 1))
        check_call(self, all_ways((double,) * 3), ways, 1, (double,) * 3)
        self.assertEqual(len(ways(1, (double,) * 3)), 64)
        self.assertEqual(len(ways(1, (triple, triple))), 25)
        for place in range(3):
            guard = tuple([triple if i == place else double for i in range(3)])
            check_error(self, TooLarge, {"what": "ways"}, ways, 1, guard)
            check_error(self, TooLarge, {"what": "ways"}, implied, 1, POSITIVE, guard)
            check_error(self, TooLarge, {"what": "ways"}, accepts_implied, 1, POSITIVE, guard, ("state", ((1, 1),)))
            check_error(self, TooLarge, {"what": "ways"}, accepts_implied, 1, POSITIVE, guard, ("always", ()))
            # Only the second guard is denied.
            self.assertTrue(accepts_implied(1, guard, POSITIVE, implied(1, guard, POSITIVE)))
        with self.assertRaises(TooLarge):
            ways(1, (triple,) * 3)
        # A pair of lists has at most 36 ways.
        self.assertEqual(len(ways(1, ((row("eq", 1, 1),) * 3,) * 2)), 36)

    def test_changed_list(self):
        found = ways(1, SOME)
        found[0] = None
        found.append(None)
        self.assertEqual(ways(1, SOME), all_ways(SOME))

    def test_many(self):
        picker = Picker(100)
        for _ in range(200):
            k = picker.number(1, 3)
            guard = some_guard(picker, k)
            if len(all_ways(guard)) <= 64:
                check_call(self, all_ways(guard), ways, k, guard)
                # A state denies the guard exactly if all rows of some way hold.
                for _ in range(3):
                    numbers = fractions([picker.rational(4, 2) for _ in range(k)])
                    denied = any(all(row_true(item, numbers) for item in way) for way in ways(k, guard))
                    self.assertEqual(denied, not guard_true(guard, numbers))


class ImpliedTests(unittest.TestCase):
    def check_implied(self, k, first, second, word=None):
        answer = implied(k, first, second)
        self.assertTrue(right_implied(k, first, second, answer), (first, second, answer))
        check_call(self, True, accepts_implied, k, first, second, answer)
        self.assertEqual(implied(k, first, second), answer)
        if word is not None:
            self.assertEqual(answer[0], word)
        return answer

    def test_intervals(self):
        above = lambda n: ((row("lt", n, -1),),)
        from_on = lambda n: ((row("le", n, -1),),)
        self.check_implied(1, above(3), above(2), "always")
        self.check_implied(1, above(3), above(3), "always")
        self.check_implied(1, above(3), from_on(3), "always")
        self.assertEqual(self.check_implied(1, from_on(3), above(3), "state"), ("state", ((3, 1),)))
        self.check_implied(1, above(2), above(3), "state")
        self.check_implied(1, ((row("eq", -5, 1),),), from_on(5), "always")
        self.check_implied(1, ((row("eq", -5, 1),),), above(5), "state")
        self.check_implied(1, from_on(5), ((row("eq", -5, 1),),), "state")
        # Only both lists together cover everything.
        both = above(3) + ((row("le", -3, 1),),)
        self.check_implied(1, above(-10), both, "always")
        self.check_implied(1, both, both, "always")
        self.check_implied(1, both, both[:1], "state")
        self.check_implied(1, ((row("eq", 0, 0),),), above(3) + ((row("lt", -3, 1),),), "state")
        # A guard that never holds implies all, and one that always holds is implied by all.
        never = ((row("lt", 0, 0),), (row("lt", 1, -1), row("le", 0, 1)))
        always = ((row("le", 0, 0),),)
        self.check_implied(1, never, never, "always")
        self.check_implied(1, never, above(5), "always")
        self.check_implied(1, above(5), always, "always")
        self.check_implied(1, always, never, "state")

    def test_planes(self):
        # In the triangle x, y at least 0 and x + y at most 1, 3 x + 2 y is at most 3.
        triangle = ((row("le", 0, -1, 0), row("le", 0, 0, -1), row("le", -1, 1, 1)),)
        self.check_implied(2, triangle, ((row("le", -3, 3, 2),),), "always")
        self.check_implied(2, triangle, ((row("lt", -3, 3, 2),),), "state")
        self.check_implied(2, triangle, ((row("le", -3, 3, 2), row("le", (-1, 2), 1, 0)),), "state")
        # x < y, or y < z, or z at most x: one of them holds everywhere.
        order = ((row("lt", 0, 1, -1, 0),), (row("lt", 0, 0, 1, -1),), (row("le", 0, -1, 0, 1),))
        self.check_implied(3, order, order, "always")
        self.check_implied(3, ((row("le", 0, 0, 0, 0),),), order, "always")
        strict = order[:2] + ((row("lt", 0, -1, 0, 1),),)
        answer = self.check_implied(3, order, strict, "state")
        self.assertEqual(len(set(answer[1])), 1)

    def test_a_guard_implies_itself(self):
        picker = Picker(101)
        for _ in range(80):
            k = picker.number(1, 3)
            guard = some_guard(picker, k, rows=2)
            self.check_implied(k, guard, guard, "always")
            self.check_implied(k, guard[:1], guard, "always")
            self.check_implied(k, (guard[0] + guard[-1][:1],) if len(guard[0]) < 3 else guard, guard, "always")

    def test_many(self):
        picker = Picker(102)
        words = []
        for _ in range(250):
            k = picker.number(1, 3)
            first = some_guard(picker, k, size=picker.number(1, 3))
            second = some_guard(picker, k, size=picker.number(1, 2), rows=2)
            words.append(self.check_implied(k, first, second)[0])
        self.assertGreater(words.count("always"), 20)
        self.assertGreater(words.count("state"), 100)

    def test_greatest_numbers(self):
        first = ((row("lt", (999, 998), (-997, 999)), row("le", (-998, 997), (991, 998))),)
        second = ((row("lt", (998, 999), (-999, 997)),), (row("lt", (1, 999), (999, 998)),))
        self.check_implied(1, first, second)
        self.check_implied(1, second, first)


class AcceptTests(unittest.TestCase):
    def check_near(self, k, first, second, answer, least):
        """Every answer that differs in one place is judged as the oracle does."""
        told = []
        for other in near(answer):
            if isinstance(other, tuple) and len(other) == 2 and isinstance(other[0], str):
                if isinstance(other[1], tuple):
                    expected = right_implied(k, first, second, other)
                    check_call(self, expected, accepts_implied, k, first, second, other)
                    told.append(expected)
        self.assertGreater(told.count(False), least)

    def test_near_answers(self):
        for k, first, second in [
            (1, ((row("lt", 3, -1),),), ((row("lt", 2, -1),),)),
            (1, SOME, ((row("le", -8, 1),), (row("lt", 9, -1),))),
            (2, ((row("eq", 0, 1, -1), row("lt", 1, -1, 0)),), ((row("lt", (1, 2), 0, -1), row("eq", 0, 3, -3)),)),
        ]:
            answer = implied(k, first, second)
            self.assertEqual(answer[0], "always")
            self.check_near(k, first, second, answer, 40)
        answer = implied(2, ((row("le", -3, 1, 1),),), ((row("lt", -3, 1, 1),),))
        self.assertEqual(answer[0], "state")
        self.check_near(2, ((row("le", -3, 1, 1),),), ((row("lt", -3, 1, 1),),), answer, 15)

    def test_numbers_of_any_length(self):
        great = 10 ** 200
        check_call(self, True, accepts_implied, 1, POSITIVE, POSITIVE, ("always", ((((great, 7), (great, 7)),),)))
        check_call(self, False, accepts_implied, 1, POSITIVE, POSITIVE, ("always", ((((great, 7), (great, 8)),),)))
        other = ((row("lt", 5, -1),),)
        check_call(self, True, accepts_implied, 1, POSITIVE, other, ("state", ((1, great),)))
        check_call(self, False, accepts_implied, 1, POSITIVE, other, ("state", ((-1, great),)))
        check_call(self, False, accepts_implied, 1, POSITIVE, other, ("state", ((5 * great + 1, great),)))
        check_call(self, True, accepts_implied, 1, POSITIVE, other, ("state", ((5, 1),)))

    def test_states(self):
        small = ((row("lt", -10, 1),),)
        for number, told in [(-1, False), (0, False), (1, False), (9, False), (10, True), (11, True)]:
            check_call(self, told, accepts_implied, 1, POSITIVE, small, ("state", (r(number),)))
        for bad in [(), ((10, 1), (10, 1)), ((20, 2),), (10,), ((True, 1),), ([10, 1],), (None,)]:
            check_call(self, False, accepts_implied, 1, POSITIVE, small, ("state", bad))
        # Of both guards none holds, or both hold.
        other = ((row("lt", -10, 1),), (row("eq", -20, 1),))
        for number, told in [(20, False), (21, True), (5, False), (-5, False)]:
            check_call(self, told, accepts_implied, 1, POSITIVE, other, ("state", (r(number),)))

    def test_other_words(self):
        good = implied(1, POSITIVE, POSITIVE)[1]
        check_call(self, True, accepts_implied, 1, POSITIVE, POSITIVE, ("always", good))
        for word in ["", "never", "state", "Always", "multipliers", "solution"]:
            check_call(self, False, accepts_implied, 1, POSITIVE, POSITIVE, (word, good))
        for odd in [odd for odd in ODD_VALUES if isinstance(odd, tuple)]:
            for word in ("always", "state"):
                check_call(self, False, accepts_implied, 1, POSITIVE, POSITIVE, (word, odd))
                check_call(self, False, accepts_implied, 1, POSITIVE, POSITIVE, (word, (odd,)))
                check_call(self, False, accepts_implied, 1, POSITIVE, POSITIVE, (word, ((odd,),)))


class ErrorTests(unittest.TestCase):
    def test_count(self):
        for bad in [0, 4, -1, True, False, None, "1", (1,), 1.0]:
            check_error(self, BadValue, {"name": "k"}, ways, bad, POSITIVE)
            check_error(self, BadValue, {"name": "k"}, ways, bad, None)
            check_error(self, BadValue, {"name": "k"}, implied, bad, POSITIVE, POSITIVE)
            check_error(self, BadValue, {"name": "k"}, implied, bad, None, None)
            check_error(self, BadValue, {"name": "k"}, accepts_implied, bad, POSITIVE, POSITIVE, ("always", ()))

    def test_guards(self):
        many = ((row("eq", 1, 1), row("eq", 2, 1), row("eq", 3, 1)),) * 3
        for bad in bad_guards(1, POSITIVE) + ODD_VALUES:
            check_error(self, BadValue, {"name": "guard"}, ways, 1, bad)
            check_error(self, BadValue, {"name": "first"}, implied, 1, bad, many)
            check_error(self, BadValue, {"name": "first"}, implied, 1, bad, None)
            check_error(self, BadValue, {"name": "second"}, implied, 1, POSITIVE, bad)
            check_error(self, BadValue, {"name": "first"}, accepts_implied, 1, bad, many, ("always", ()))
            check_error(self, BadValue, {"name": "second"}, accepts_implied, 1, POSITIVE, bad, ("always", ()))
        for k in (2, 3):
            check_error(self, BadValue, {"name": "guard"}, ways, k, POSITIVE)
            for bad in bad_guards(k, ((row("le", *range(k + 1)),),)):
                check_error(self, BadValue, {"name": "guard"}, ways, k, bad)

    def test_limits(self):
        for number in [(999, 1), (-999, 1), (1, 999), (-998, 999)]:
            for kind in KINDS:
                guard = ((row(kind, number, 1), row(kind, 1, number)),) * 3
                implied(1, guard, guard[:1])


if __name__ == "__main__":
    unittest.main()
