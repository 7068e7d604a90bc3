"""Sets of rounds, and the rounds of a condition (points 63 to 68)."""

import unittest

from helpers import ODD_VALUES, Picker, check_call, check_error, p
from roundknown.conditions import comparisons, holds, is_condition
from roundknown.errors import BadValue, NotTold, RoundError, TooLarge
from roundknown.futures import future_of
from roundknown.layers import why_not
from roundknown.maps import after_rounds, is_map
from roundknown.rounds import complement, is_in, is_subset, meet, rounds_of, rounds_of_table, union
from roundknown.tables import table_of
from roundknown.watches import state_at
from test_conditions import some_condition
from test_futures import layered_map

ONE = (1, 1)
LAST = 10 ** 40
NONE = (((0, False),), ((1, False),))
ALL = (((0, True),), ((1, True),))
LATE = (((0, False), (12, True)), ((1, False), (11, True)))
SOME = (((0, False), (4, True)), ((1, False), (5, True), (9, False)))
FALLING = (p(2, x=2, y=1), p(2, y=1, one=-1))
COUNT = (p(1, x=1, one=1),)
# x is n, y is n (n - 1) / 2 and z is n (n - 1) (n - 2) / 6, from 0.
CUBIC = (p(3, x=1, one=1), p(3, x=1, y=1), p(3, y=1, z=1))
ZEROS = ((0, 1),) * 3


def told_at(rounds, n):
    """Whether the round is in the set, straight from point 63."""
    return [worth for start, worth in rounds[n % 2] if start <= n][-1]


def made_of(rounds, end):
    """The set of rounds below end with these rounds, and none from end on."""
    halves = []
    for kind in (0, 1):
        found = [(kind, kind in rounds)]
        for n in list(range(kind, end, 2)) + [end + (end + kind) % 2]:
            if (n in rounds) != found[-1][1]:
                found.append((n, n in rounds))
        halves.append(tuple(found))
    return tuple(halves)


def striped(count, kind=0, first=True, step=2):
    """Stretches of one kind, as many as count, each of them with this many rounds."""
    return tuple([(kind + 2 * step * place, first == (place % 2 == 0)) for place in range(count)])


def near_sets(good):
    """Values near a set of rounds that are none."""
    even, odd = good
    yield from [list(good), good[:1], good + (odd,), (odd, even), (list(even), odd), (even, list(odd)), (even, ()),
                ((), odd), (even, None), even, (even, odd[0]), (even, (odd[0], odd[0]))]
    for kind in (0, 1):
        for place, (start, worth) in enumerate(good[kind]):
            around = (good[kind][:place], good[kind][place + 1:])
            others = [(start + 1, worth), (start - 1, worth), (float(start), worth), (str(start), worth),
                      (start, int(worth)), (start, None), (start, str(worth)), [start, worth], (start,), (worth, start),
                      (start, worth, worth), start, None, (start, not worth)]
            if place == 0:
                others += [(start + 2, worth), (start - 2, worth)]
                if len(good[kind]) == 1:
                    others.remove((start, not worth))
            if place > 0:
                others += [(good[kind][place - 1][0], worth), (good[kind][place - 1][0] - 2, worth),
                           (LAST + 2 + kind, worth)]
            for other in others:
                half = around[0] + (other,) + around[1]
                yield (half, odd) if kind == 0 else (even, half)


class SetTests(unittest.TestCase):
    def test_examples(self):
        check_call(self, (((0, False), (4, True), (12, False)), ((1, False), (5, True), (9, False))),
                   meet, complement(LATE), SOME)
        check_call(self, (((0, False), (4, True)), ((1, False), (5, True), (9, False), (11, True))), union, LATE, SOME)
        check_call(self, False, is_subset, LATE, SOME)
        check_call(self, (((0, True), (12, False)), ((1, True), (11, False))), complement, LATE)

    def test_all_and_none(self):
        for rounds in (NONE, ALL, LATE, SOME):
            check_call(self, rounds, union, rounds, NONE)
            check_call(self, rounds, union, NONE, rounds)
            check_call(self, ALL, union, rounds, ALL)
            check_call(self, ALL, union, rounds, complement(rounds))
            check_call(self, rounds, meet, rounds, ALL)
            check_call(self, NONE, meet, rounds, NONE)
            check_call(self, NONE, meet, complement(rounds), rounds)
            check_call(self, rounds, union, rounds, rounds)
            check_call(self, rounds, meet, rounds, rounds)
            check_call(self, True, is_subset, NONE, rounds)
            check_call(self, True, is_subset, rounds, ALL)
            check_call(self, rounds == ALL, is_subset, ALL, rounds)
            check_call(self, rounds == NONE, is_subset, rounds, NONE)

    def test_membership(self):
        picker = Picker(66)
        for _ in range(120):
            sets = [{n for n in range(24) if picker.number(0, 2)} for _ in range(2)]
            first, second = [made_of(rounds, 24) for rounds in sets]
            if picker.number(0, 1):
                first = complement(first)
                sets[0] = set(range(40)) - sets[0]
            both, either = meet(first, second), union(first, second)
            self.assertEqual(meet(second, first), both)
            self.assertEqual(union(second, first), either)
            # Equal sets are equal data, however they were made.
            self.assertEqual(complement(union(complement(first), complement(second))), both)
            self.assertEqual(complement(meet(complement(first), complement(second))), either)
            self.assertEqual(complement(complement(first)), first)
            self.assertIs(is_subset(first, second), sets[0] <= sets[1])
            self.assertIs(is_subset(both, first), True)
            self.assertIs(is_subset(first, either), True)
            self.assertIs(is_subset(either, first), sets[1] <= sets[0])
            for n in range(32):
                self.assertIs(is_in(first, n), n in sets[0])
                self.assertIs(is_in(second, n), n in sets[1])
                self.assertIs(is_in(both, n), n in sets[0] and n in sets[1])
                self.assertIs(is_in(either, n), n in sets[0] or n in sets[1])
                self.assertIs(is_in(complement(first), n), n not in sets[0])

    def test_far_starts(self):
        far = (((0, False), (LAST, True)), ((1, True), (LAST - 1, False)))
        check_call(self, True, is_in, far, LAST)
        check_call(self, False, is_in, far, LAST - 1)
        check_call(self, False, is_in, far, LAST - 2)
        check_call(self, True, is_in, far, LAST - 3)
        check_call(self, (((0, True), (LAST, False)), ((1, False), (LAST - 1, True))), complement, far)
        check_call(self, ALL, union, far, complement(far))
        check_call(self, far, meet, far, far)
        for bad in [(((0, False), (LAST + 2, True)), ((1, False),)), (((0, False),), ((1, False), (LAST + 1, True)))]:
            check_error(self, BadValue, {"name": "rounds"}, complement, bad)
            check_error(self, BadValue, {"name": "first"}, union, bad, ALL)

    def test_many_stretches(self):
        good = (striped(1000), striped(1000, 1, False))
        self.assertEqual(complement(good), (striped(1000, 0, False), striped(1000, 1)))
        self.assertEqual(union(good, NONE), good)
        self.assertEqual(meet(good, ALL), good)
        self.assertIs(is_subset(good, good), True)
        self.assertIs(is_in(good, 0), True)
        for bad in [(striped(1001), ((1, True),)), (((0, True),), striped(1001, 1))]:
            check_error(self, BadValue, {"name": "rounds"}, complement, bad)
            check_error(self, BadValue, {"name": "rounds"}, is_in, bad, 0)
            for call in (union, meet, is_subset):
                check_error(self, BadValue, {"name": "first"}, call, bad, bad)
                check_error(self, BadValue, {"name": "second"}, call, good, bad)

    def test_many_stretches_in_results(self):
        for kind in (0, 1):
            # Islands of 2 rounds in each 4 of a kind; without the first round, one more stretch stands before them.
            for begin, many in [(kind, 1000), (kind + 4, 1001)]:
                islands = [{begin + 8 * place, begin + 8 * place + 2} for place in range(500)]
                first = made_of(set().union(*islands[0::2]), 5000)
                second = made_of(set().union(*islands[1::2]), 5000)
                expected = made_of(set().union(*islands), 5000)
                self.assertEqual(len(expected[kind]), many)
                both = [complement(first), complement(second)]
                if many > 1000:
                    check_error(self, TooLarge, {"what": "rounds"}, union, first, second)
                    check_error(self, TooLarge, {"what": "rounds"}, meet, *both)
                else:
                    self.assertEqual(union(first, second), expected)
                    self.assertEqual(meet(*both), complement(expected))
                self.assertIs(is_subset(first, complement(second)), True)
                self.assertIs(is_subset(complement(second), first), False)

    def test_argument_errors(self):
        for good in (ALL, LATE, SOME):
            for bad in list(near_sets(good)) + ODD_VALUES:
                check_error(self, BadValue, {"name": "rounds"}, complement, bad)
                check_error(self, BadValue, {"name": "rounds"}, is_in, bad, -1)
                for call in (union, meet, is_subset):
                    check_error(self, BadValue, {"name": "first"}, call, bad, bad)
                    check_error(self, BadValue, {"name": "second"}, call, good, bad)
        for bad in [True, False, None, -1, LAST + 1, "1", (1,), 1.0]:
            check_error(self, BadValue, {"name": "n"}, is_in, ALL, bad)
        check_call(self, True, is_in, ALL, LAST)


class TableTests(unittest.TestCase):
    TABLE = (((0, 0), (2, -1), (6, 1)), ((1, 0), (3, -1), (5, 1)))

    def test_signs(self):
        expected = {
            (): NONE, (-1,): (((0, False), (2, True), (6, False)), ((1, False), (3, True), (5, False))),
            (0,): (((0, True), (2, False)), ((1, True), (3, False))),
            (1,): (((0, False), (6, True)), ((1, False), (5, True))),
            (-1, 0): (((0, True), (6, False)), ((1, True), (5, False))),
            (-1, 1): (((0, False), (2, True)), ((1, False), (3, True))),
            (0, 1): (((0, True), (2, False), (6, True)), ((1, True), (3, False), (5, True))), (-1, 0, 1): ALL,
        }
        for signs, rounds in expected.items():
            check_call(self, rounds, rounds_of_table, self.TABLE, list(signs))
            check_call(self, rounds, rounds_of_table, self.TABLE, list(signs[::-1]))
            check_call(self, rounds, rounds_of_table, self.TABLE, list(signs) * 2)
        for n in range(12):
            for signs, rounds in expected.items():
                self.assertIs(told_at(rounds, n), told_at(self.TABLE, n) in signs)

    def test_sign_errors(self):
        bad_signs = [True, None, (), (0,), {0}, "0", 0, [True], [False], [2], [-2], [0, 2], [0, None], ["0"], [1.0]]
        for bad in bad_signs + [[[0]], [1, True], [0, -2]]:
            check_error(self, BadValue, {"name": "signs"}, rounds_of_table, self.TABLE, bad)
            check_error(self, BadValue, {"name": "table"}, rounds_of_table, None, bad)

    def test_table_errors(self):
        even, odd = self.TABLE
        bad_tables = ODD_VALUES + [list(self.TABLE), (odd, even), (even,), (even, odd, odd), (list(even), odd),
                                   (even, ()), (even, ((1, 0), (3, 0))), (even, ((1, 2),)), (even, ((1, True),)),
                                   ALL, SOME, (even, ((3, 0),)), (even, ((1, 0), (4, 1))),
                                   (even, ((1, 0), (3, 1), (3, 0))),
                                   (even, ((1, 0, 0),)), (even, ([1, 0],)), (even, ((1, "0"),)), (even, ((1.0, 0),))]
        for bad in bad_tables:
            check_error(self, BadValue, {"name": "table"}, rounds_of_table, bad, [0])

    def test_many_stretches(self):
        def table(count, kind):
            half = tuple([(kind + 2 * place, place % 3 - 1) for place in range(count)])
            return (half, ((1, 0),)) if kind == 0 else (((0, 0),), half)
        for kind in (0, 1):
            # Each three stretches have the signs -1, 0 and 1, and only the second one counts.
            self.assertEqual(len(rounds_of_table(table(1499, kind), [0])[kind]), 1000)
            check_error(self, TooLarge, {"what": "rounds"}, rounds_of_table, table(1500, kind), [0])
            self.assertEqual(len(rounds_of_table(table(1000, kind), [1, 0])[kind]), 667)
            self.assertEqual(rounds_of_table(table(5000, kind), [-1, 0, 1]), ALL)
            self.assertEqual(rounds_of_table(table(5000, kind), []), NONE)

    def test_far_starts(self):
        far = (((0, 1), (LAST * 100, 0)), ((1, -1), (LAST + 1, 0)))
        self.assertEqual(rounds_of_table(far, [0]), (((0, False), (LAST * 100, True)), ((1, False), (LAST + 1, True))))


class RoundsOfTests(unittest.TestCase):
    def test_example(self):
        check_call(self, LATE, rounds_of, FALLING, ((1, 1), (10, 1)), ("lt", p(2, y=1)))

    def test_never_always_and_in_turn(self):
        start = ((0, 1),)
        cases = [
            (("eq", ()), ALL), (("lt", ()), NONE), (("le", ()), ALL), (("not", ("eq", ())), NONE),
            (("lt", p(1, x=1)), NONE), (("le", p(1, x=1)), made_of({0}, 2)), (("eq", p(1, x=1)), made_of({0}, 2)),
            (("lt", p(1, x=-1)), complement(made_of({0}, 2))), (("le", p(1, x=-1)), ALL),
            (("eq", p(1, x=1, one=-7)), made_of({7}, 8)), (("eq", p(1, x=2, one=-7)), NONE),
            (("lt", p(1, x2=1, x=-7, one=10)), made_of({3, 4}, 6)),
            (("le", p(1, x2=1, x=-7, one=10)), made_of({2, 3, 4, 5}, 6)),
            (("and", (("lt", p(1, x=1, one=-9)), ("not", ("lt", p(1, x=1, one=-3))))), made_of(set(range(3, 9)), 9)),
        ]
        for condition, expected in cases:
            check_call(self, expected, rounds_of, COUNT, start, condition)
        turning = (p(1, x=-1),)
        check_call(self, (((0, False),), ((1, True),)), rounds_of, turning, ((3, 1),), ("lt", p(1, x=1)))
        check_call(self, (((0, True),), ((1, False),)), rounds_of, turning, ((3, 1),), ("eq", p(1, x=1, one=-3)))
        check_call(self, ALL, rounds_of, turning, ((3, 1),), ("eq", p(1, x2=1, one=-9)))
        check_call(self, ALL, rounds_of, turning, ((0, 1),), ("eq", p(1, x=1)))

    def test_far_changes(self):
        # x is n - 1000 and y is 2 to the n.
        rules = (p(2, x=1, one=1), p(2, y=2))
        start = ((-1000, 1), (1, 1))
        expected = (((0, True), (1000, False)), ((1, True), (1001, False)))
        check_call(self, expected, rounds_of, rules, start, ("lt", p(2, x=1)))
        check_call(self, expected, rounds_of, rules, start, ("lt", p(2, xy=1)))
        slow = (p(2, x=1, one=(1, 20)), p(2, y=2))
        rounds = rounds_of(slow, start, ("lt", p(2, xy=1, one=(-1, 20))))
        self.assertEqual(rounds, (((0, True), (20002, False)), ((1, True), (20001, False))))

    def test_combinations(self):
        check_call(self, meet(LATE, complement(made_of({14}, 15))), rounds_of, FALLING, ((1, 1), (10, 1)),
                   ("and", (("lt", p(2, y=1)), ("not", ("eq", p(2, y=1, one=4))))))
        five = ("or", tuple([("eq", p(1, x=1, one=-number)) for number in (2, 3, 5, 7, 11, 13)]))
        check_call(self, made_of({2, 3, 5, 7, 11, 13}, 14), rounds_of, COUNT, ((0, 1),), five)
        check_call(self, complement(made_of({2, 3, 5, 7, 11, 13}, 14)), rounds_of, COUNT, ((0, 1),), ("not", five))
        both = ("and", tuple([("not", member) for member in five[1]]))
        check_call(self, complement(made_of({2, 3, 5, 7, 11, 13}, 14)), rounds_of, COUNT, ((0, 1),), both)

    def test_against_rounds(self):
        picker = Picker(64)
        done, refused, mixed = 0, 0, 0
        while done < 150:
            rules = layered_map(picker)
            k = len(rules)
            condition = some_condition(picker, k, 3)
            if why_not(rules) is not None or not is_condition(k, condition):
                continue
            state = tuple([picker.rational(9, 3) for _ in range(k)])
            try:
                rounds = rounds_of(rules, state, condition)
            except TooLarge as error:
                refused += 1
                self.assertIn(error.what, ("form", "small"))
                continue
            done += 1
            mixed += rounds not in (ALL, NONE)
            states = [after_rounds(rules, state, n) for n in range(20)]
            for n, numbers in enumerate(states):
                self.assertIs(told_at(rounds, n), holds(condition, numbers), (rules, state, condition, n))
            for n in (40, 133, 400):
                try:
                    numbers = state_at(rules, state, n)
                except RoundError:
                    continue
                self.assertIs(told_at(rounds, n), holds(condition, numbers), (rules, state, condition, n))
            self.check_parts(rules, state, condition, rounds)
            if k == 1 or all(abs(number[0]) <= 1000 and number[1] <= 12 for number in states[3]):
                self.check_later(rules, states[3], condition, rounds)
        self.assertGreater(mixed, 20)
        self.assertLess(refused, 60)

    def check_parts(self, rules, state, condition, rounds):
        """Point 67: the rounds are made of the rounds of the members."""
        word, content = condition
        if word == "not":
            self.assertEqual(rounds, complement(rounds_of(rules, state, content)))
        if word in ("and", "or"):
            total = ALL if word == "and" else NONE
            for member in content:
                total = (meet if word == "and" else union)(total, rounds_of(rules, state, member))
            self.assertEqual(rounds, total)
        if word in ("eq", "lt", "le"):
            self.assertEqual(comparisons(condition), [condition])

    def check_later(self, rules, state, condition, rounds):
        """Point 67: the rounds from a later state, here the one after 3 rounds."""
        try:
            later = rounds_of(rules, state, condition)
        except RoundError:
            return
        for n in range(40):
            self.assertIs(told_at(later, n), told_at(rounds, n + 3))

    def test_too_large(self):
        small, form, good = ("lt", p(3, z2=1)), ("eq", p(3, z3=1)), ("le", p(3, x=1))
        check_error(self, TooLarge, {"what": "small"}, rounds_of, CUBIC, ZEROS, small)
        check_error(self, TooLarge, {"what": "form"}, rounds_of, CUBIC, ZEROS, form)
        for condition, what in [
            (("and", (good, small)), "small"), (("or", (good, form)), "form"), (("or", (small, form)), "small"),
            (("and", (form, small)), "form"), (("not", ("or", (good, ("not", small), form))), "small"),
            (("or", (("and", (good, form)), small)), "form"), (("and", (("lt", ()), small)), "small"),
        ]:
            check_error(self, TooLarge, {"what": what}, rounds_of, CUBIC, ZEROS, condition)
        # Only the future of the polynomial counts: z to the power 3 has the power 9 in n, but here it goes away.
        check_call(self, ALL, rounds_of, CUBIC, ZEROS, ("le", p(3, x=-1)))
        stays = (p(2, x=1), p(2, y=1))
        check_call(self, ALL, rounds_of, stays, ((1000, 1), (1, 1)), ("lt", p(2, x=-20)))
        check_error(self, TooLarge, {"what": "small"}, rounds_of, stays, ((1000, 1), (1, 1)), ("lt", p(2, x3=1)))
        check_call(self, NONE, rounds_of, stays, ((100, 1), (1, 1)), ("lt", p(2, x3=1)))

    def test_long_forms_on_the_way(self):
        # x * y is 1 in every round, while its factors have other bases.
        rules = (p(2, x=20), p(2, y=(1, 20)))
        start = ((1, 1), (1, 1))
        check_error(self, TooLarge, {"what": "small"}, rounds_of, rules, start, ("lt", p(2, x=1)))
        check_error(self, TooLarge, {"what": "small"}, rounds_of, rules, start, ("lt", p(2, x3=1)))
        check_call(self, ALL, rounds_of, rules, start, ("eq", p(2, xy=1, one=-1)))
        check_call(self, ALL, rounds_of, rules, start, ("eq", p(2, x3y3=1, one=-1)))
        check_call(self, ALL, rounds_of, rules, start, ("eq", p(2, x3y3=1, xy=-1)))

    def test_form_of_the_futures_comes_first(self):
        wide = (p(3, x=20), p(3, y=(19, 20), x3=1), p(3, z=(1, 19), x3y3=1, y3=1, x2y3=1, y2=1, xy=1))
        start = ((999, 11), (-997, 7), (991, 12))
        with self.assertRaises(TooLarge) as caught:
            future_of(wide, start)
        self.assertEqual(caught.exception.what, "form")
        for condition in [("eq", ()), ("lt", p(3, x=1)), ("and", (("lt", p(3, x=1)), ("lt", p(3, z3=1))))]:
            check_error(self, TooLarge, {"what": "form"}, rounds_of, wide, start, condition)

    def test_not_told(self):
        reason = ("product", 0, ((1, 1), (2,)))
        check_error(self, NotTold, {"reason": reason}, rounds_of, (p(1, x2=1),), ((0, 1),), ("lt", p(1, x=1)))
        half = (p(2, x=1, y=1), p(2, x=1))
        reason = ("irrational", (0, 1), ((-1, 1), (-1, 1), (1, 1)))
        check_error(self, NotTold, {"reason": reason}, rounds_of, half, ((0, 1), (0, 1)), ("lt", p(2, x3y3=1)))
        check_error(self, BadValue, {"name": "condition"}, rounds_of, half, ((0, 1), (0, 1)), ("lt", p(1, x=1)))

    def test_argument_errors(self):
        start, condition = ((1, 1), (10, 1)), ("lt", p(2, y=1))
        no_maps = [odd for odd in ODD_VALUES if not is_map(odd)]
        for bad in no_maps + [list(FALLING), (p(2, x4=1), p(2, y=1)), (p(1, x=1), p(1, x=1))]:
            check_error(self, BadValue, {"name": "map"}, rounds_of, bad, None, None)
        for bad in ODD_VALUES + [list(start), start[:1], ((1001, 1), (0, 1)), ((0, 1), (1, 13)), ((2, 2), (1, 1))]:
            check_error(self, BadValue, {"name": "state"}, rounds_of, FALLING, bad, None)
        for bad in ODD_VALUES + [("lt", p(1, x=1)), ("lt", p(3, x=1)), ("and", (condition,)), ("lt", p(2, x=21))]:
            check_error(self, BadValue, {"name": "condition"}, rounds_of, FALLING, start, bad)

    def test_equal_tables(self):
        start = ((1, 1), (10, 1))
        table = table_of(future_of(FALLING, start)[1])
        self.assertEqual(rounds_of(FALLING, start, ("lt", p(2, y=1))), rounds_of_table(table, [-1]))


if __name__ == "__main__":
    unittest.main()
