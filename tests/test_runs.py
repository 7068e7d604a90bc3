"""Runs told without their rounds (points 92 to 94)."""

import unittest

from helpers import ODD_VALUES, Picker, check_call, check_error, p, r
from roundknown.errors import BadValue, NotTold
from roundknown.layers import why_not
from roundknown.programs import Program
from roundknown.rounds import is_in, rounds_of
from roundknown.runs import run_of
from roundknown.walking import walk
from roundknown.watches import state_at
from test_walking import ALWAYS, DOUBLE, NEVER, SQUARE, STEP, below, one, some_program, two

HALF = (p(1, x=(1, 2)),)
# From 1000 to 10 to the powers 7, 14 or 15, 29 or 30, 59 or 60.
TO_59 = [("set", (rule,)) for rule in (p(1, x2=10), p(1, x2=1), p(1, x2=10), p(1, x2=10))]
TO_60 = [("set", (rule,)) for rule in (p(1, x2=10), p(1, x2=10), p(1, x2=1), p(1, x2=1))]
THOUSAND = ((1000, 1),)


def beside(sets):
    """The same sets for y, while x stays."""
    return [("set", (p(2, x=1), tuple([(c, (0, e[0])) for c, e in statement[1][0]]))) for statement in sets]


class DoneTests(unittest.TestCase):
    def test_examples(self):
        loop = ("while", ("not", ("lt", p(2, y=1))), (p(2, x=2, y=1), p(2, y=1, one=-1)))
        check_call(self, ("done", ((0, 11),), ((20482, 1), (-1, 1))), run_of, two(loop), ((1, 1), (10, 1)))
        half = ("while", ("lt", p(1, x=-1)), HALF)
        check_call(self, ("never", (), ("body", 0)), run_of, one(half), ((1, 1),))

    def test_no_rounds(self):
        check_call(self, ("done", (), ((7, 2),)), run_of, one(), ((7, 2),))
        check_call(self, ("done", ((0, 0),), ((7, 1),)), run_of, one(("while", below(5), STEP)), ((7, 1),))
        check_call(self, ("done", ((0, 0),), ((0, 1),)), run_of, one(("repeat", 0, STEP)), ((0, 1),))
        check_call(self, ("done", ((0, 0),), ((7, 1),)), run_of, one(("while", NEVER, (p(1, x=9),))), ((7, 1),))

    def test_many_rounds(self):
        # 1000 squared is the number of rounds.
        sets = [("set", (p(2, x2=1), p(2, y=1)))]
        repeat = two(*sets, ("repeat", 0, (p(2, x=1), p(2, y=1, one=3))))
        expected = ("done", ((0, 10 ** 6),), ((10 ** 6, 1), (3 * 10 ** 6, 1)))
        check_call(self, expected, run_of, repeat, ((1000, 1), (0, 1)))
        loop = two(*sets, ("while", ("lt", p(2, x=-1, y=1)), (p(2, x=1), p(2, y=1, one=1))))
        check_call(self, ("done", ((0, 10 ** 6),), ((10 ** 6, 1), (10 ** 6, 1))), run_of, loop, ((1000, 1), (0, 1)))
        slow = one(("while", below(5), (p(1, x=1, one=(1, 20)),)))
        check_call(self, ("done", ((0, 20100),), ((5, 1),)), run_of, slow, ((-1000, 1),))
        check_call(self, ("limit", (), ("body", 0)), walk, slow, ((-1000, 1),), 60)
        turning = one(("repeat", 0, (p(1, x=-1),)))
        check_call(self, ("done", ((0, 999),), ((-999, 1),)), run_of, turning, ((999, 1),))

    def test_blocks(self):
        inner = ("if", below(3), (("repeat", 0, STEP),), (("while", below(9), STEP),))
        program = one(("if", below(0), (), (inner, ("set", DOUBLE))), ("repeat", 0, STEP))
        check_call(self, ("done", ((0, 2), (2, 8)), ((16, 1),)), run_of, program, ((2, 1),))
        check_call(self, ("done", ((1, 5), (2, 18)), ((36, 1),)), run_of, program, ((4, 1),))
        check_call(self, ("stopped", (), ("body", 1), "count"), run_of, program, ((-1, 1),))
        stopped = ("stopped", (), ("body", 0, "else", 0, "then", 0), "count")
        check_call(self, stopped, run_of, program, ((1, 2),))

    def test_never(self):
        endless = ("while", ALWAYS, STEP)
        check_call(self, ("never", (), ("body", 0)), run_of, one(endless, ("set", STEP)), ((0, 1),))
        program = one(("while", below(5), STEP), ("if", ALWAYS, (endless,), ()), ("repeat", 0, STEP))
        check_call(self, ("never", ((0, 5),), ("body", 1, "then", 0)), run_of, program, ((0, 1),))
        # In even rounds only the condition holds: the loop ends.
        turning = ("while", ("lt", p(1, x=-1)), (p(1, x=-1),))
        check_call(self, ("done", ((0, 1),), ((-3, 1),)), run_of, one(turning), ((3, 1),))
        both = ("while", ("not", ("eq", p(1, x=1))), (p(1, x=-1),))
        check_call(self, ("never", (), ("body", 0)), run_of, one(both), ((3, 1),))
        # Never is told also where numbers would become too long.
        check_call(self, ("never", (), ("body", 0)), run_of, one(("while", ALWAYS, DOUBLE)), ((1, 1),))

    def test_equal_loops(self):
        loop = ("while", below(5), STEP)
        program = one(("if", below(0), (loop,), (loop,)), ("set", ((),)), loop, loop)
        check_call(self, ("done", ((1, 5), (2, 5), (3, 0)), ((5, 1),)), run_of, program, ((0, 1),))
        check_call(self, ("done", ((0, 6), (2, 5), (3, 0)), ((5, 1),)), run_of, program, ((-1, 1),))


class StoppedTests(unittest.TestCase):
    def test_set(self):
        squares = [("set", SQUARE)] * 7
        check_call(self, ("done", (), ((10 ** 384, 1),)), run_of, one(*squares), THOUSAND)
        check_call(self, ("stopped", (), ("body", 7), "numbers"), run_of, one(*squares, ("set", SQUARE)), THOUSAND)
        square, more = p(1, x2=1), p(1, x2=10)
        for rules, digits in [((square,) * 3 + (more,) * 4, 400), ((square,) * 2 + (more,) + (square,) * 4, 401)]:
            found = run_of(one(*[("set", (rule,)) for rule in rules]), THOUSAND)
            if digits == 400:
                self.assertEqual(found, ("done", (), ((10 ** 399, 1),)))
            else:
                self.assertEqual(found, ("stopped", (), ("body", 6), "numbers"))
        loops = one(("while", below(5), STEP), *squares, ("set", SQUARE))
        check_call(self, ("stopped", ((0, 0),), ("body", 8), "numbers"), run_of, loops, THOUSAND)

    def test_if_with_long_numbers(self):
        squares = [("set", SQUARE)] * 7
        for test, expected in [(below(20), 0), (("not", below(20)), 1), (("lt", p(1, x3=-1)), 1),
                               (("eq", p(1, x3=1)), 0)]:
            program = one(*squares, ("if", test, (("set", (p(1, one=1),)),), (("set", ((),)),)))
            check_call(self, ("done", (), ((expected, 1),)), run_of, program, THOUSAND)

    def test_while_with_long_numbers(self):
        # 60 digits are let, 61 stop a loop that makes a round.
        for sets, number, words in [(TO_59, 10 ** 59, ("done", "never")), (TO_60, 10 ** 60, ("stopped", "stopped"))]:
            loop = two(*beside(sets), ("while", ("lt", p(2, x=1, one=-5)), (p(2, x=1, one=1), p(2, y=1))))
            found = run_of(loop, ((0, 1), (1000, 1)))
            if words[0] == "done":
                self.assertEqual(found, ("done", ((0, 5),), ((5, 1), (number, 1))))
            else:
                self.assertEqual(found, ("stopped", (), ("body", 4), "numbers"))
            # Without a round, numbers of any length are let.
            self.assertEqual(run_of(loop, ((5, 1), (1000, 1))), ("done", ((0, 0),), ((5, 1), (number, 1))))
            never = two(*beside(sets), ("while", ALWAYS, (p(2, x=1, one=1), p(2, y=1))))
            self.assertEqual(run_of(never, ((0, 1), (1000, 1)))[0], words[1])
            repeat = two(*beside(sets), ("repeat", 0, (p(2, x=1, one=1), p(2, y=1))))
            found = run_of(repeat, ((3, 1), (1000, 1)))
            if words[0] == "done":
                self.assertEqual(found, ("done", ((0, 3),), ((6, 1), (number, 1))))
            else:
                self.assertEqual(found, ("stopped", (), ("body", 4), "numbers"))
            self.assertEqual(run_of(repeat, ((0, 1), (1000, 1))), ("done", ((0, 0),), ((0, 1), (number, 1))))
        squares = [("set", SQUARE)] * 7
        loop = one(*squares, ("while", below(5), STEP), ("while", ("not", below(5)), STEP))
        check_call(self, ("stopped", ((0, 0),), ("body", 8), "numbers"), run_of, loop, THOUSAND)

    def test_denominators_count(self):
        # 12 to the power 27 has 30 digits, and its cube has 88.
        sets = [("set", (p(1, x3=1),))] * 4
        loop = one(*sets[:3], ("while", below(5), STEP))
        check_call(self, ("stopped", (), ("body", 3), "small"), run_of, loop, ((1, 12),))
        loop = one(*sets, ("while", below(5), STEP))
        check_call(self, ("stopped", (), ("body", 4), "numbers"), run_of, loop, ((1, 12),))

    def test_small(self):
        nine = one(("while", below(20), (p(1, x=9),)))
        check_call(self, ("stopped", (), ("body", 0), "small"), run_of, nine, ((1, 1),))
        check_call(self, ("done", ((0, 0),), ((20, 1),)), run_of, nine, ((20, 1),))
        # All comparisons are looked at, also where one of them alone decides.
        either = one(("while", ("or", (ALWAYS, below(20))), (p(1, x=9),)))
        check_call(self, ("stopped", (), ("body", 0), "small"), run_of, either, ((1, 1),))
        check_call(self, ("done", ((0, 1),), ((9, 1),)), run_of, one(("repeat", 0, (p(1, x=9),))), ((1, 1),))

    def test_form(self):
        # z is n (n - 1) (n - 2) / 6, and its power 3 has the power 9 in n.
        cubic = (p(3, x=1, one=1), p(3, x=1, y=1), p(3, y=1, z=1))
        zeros = ((0, 1),) * 3
        for condition, word in [(("le", p(3, z3=1)), "form"), (("le", p(3, z2=1)), "small"),
                                (("and", (("le", p(3, z3=1)), ("le", p(3, z2=1)))), "form"),
                                (("and", (("le", p(3, z2=1)), ("le", p(3, z3=1)))), "small")]:
            program = Program(names=("x", "y", "z"), body=(("while", condition, cubic),))
            check_call(self, ("stopped", (), ("body", 0), word), run_of, program, zeros)
        # The future of x has the coefficient 20 times 10 to the 59.
        driven = (p(2, x=1, y=20), p(2, y=1))
        for loop in [("while", ("lt", p(2, x=1, one=-5)), driven), ("repeat", 0, driven), ("while", ALWAYS, driven)]:
            program = two(*beside(TO_59), loop)
            check_call(self, ("stopped", (), ("body", 4), "form"), run_of, program, ((3, 1), (1000, 1)))
        program = two(*beside(TO_59), ("repeat", 0, driven), ("while", NEVER, driven))
        expected = ("done", ((0, 0), (1, 0)), ((0, 1), (10 ** 59, 1)))
        check_call(self, expected, run_of, program, ((0, 1), (1000, 1)))

    def test_count(self):
        for bad in [(-1, 1), (1, 2), (-1000, 1), (999, 2)]:
            check_call(self, ("stopped", (), ("body", 0), "count"), run_of, one(("repeat", 0, STEP)), (bad,))
        for more, expected in [(0, "done"), (1, "stopped")]:
            program = one(("set", (p(1, x2=1, one=more) if more else SQUARE[0],)), ("repeat", 0, STEP))
            self.assertEqual(run_of(program, THOUSAND)[0], expected)
        check_call(self, ("stopped", (), ("body", 1), "count"), run_of, program, THOUSAND)
        # Too many rounds come before too many digits.
        program = one(*TO_60, ("repeat", 0, STEP))
        check_call(self, ("stopped", (), ("body", 4), "count"), run_of, program, THOUSAND)
        late = one(("while", below(5), STEP), ("repeat", 0, STEP))
        check_call(self, ("stopped", ((0, 6),), ("body", 1), "count"), run_of, late, ((-1, 2),))

    def test_state_afterwards(self):
        # After 400 rounds a state with other bases than 1 and -1 is told, after 401 it is not.
        rules = (p(2, x=1, one=1), p(2, y=2))
        for head in ("while", "repeat"):
            for many, ended in [(400, True), (401, False), (1000, False)]:
                loop = (head, ("lt", p(2, x=1)) if head == "while" else 0, rules)
                start = ((-many if head == "while" else many, 1), (1, 1))
                expected = ("stopped", ((0, many),), ("body", 0), "numbers")
                if ended:
                    expected = ("done", ((0, many),), ((0 if head == "while" else 800, 1), (2 ** 400, 1)))
                check_call(self, expected, run_of, two(loop), start)
        program = two(("while", ("lt", p(2, x=1)), (p(2, x=1, one=1), p(2, y=10))), ("set", rules))
        check_call(self, ("done", ((0, 396),), ((1, 1), (2 * 10 ** 399, 1))), run_of, program, ((-396, 1), (1000, 1)))
        check_call(self, ("stopped", ((0, 397),), ("body", 0), "numbers"), run_of, program, ((-397, 1), (1000, 1)))
        more = two(("while", NEVER, rules), ("while", ("lt", p(2, x=1)), rules), ("while", NEVER, rules))
        check_call(self, ("stopped", ((0, 0), (1, 500)), ("body", 1), "numbers"), run_of, more, ((-500, 1), (1, 1)))
        # The variable with the other base is 0.
        check_call(self, ("done", ((0, 500),), ((0, 1), (0, 1))), run_of, two(more.body[1]), ((-500, 1), (0, 1)))


class NotToldTests(unittest.TestCase):
    def test_not_told(self):
        square = ("while", below(5), SQUARE)
        reason = ("product", 0, ((1, 1), (2,)))
        check_error(self, NotTold, {"reason": ("loop", 0) + reason}, run_of, one(square), ((0, 1),))
        # The first such loop in the text, also if the run does not reach it.
        hidden = one(("while", below(5), STEP), ("if", NEVER, (("while", NEVER, SQUARE),), ()), square)
        check_error(self, NotTold, {"reason": ("loop", 1) + reason}, run_of, hidden, ((0, 1),))
        behind = one(("while", ALWAYS, STEP), ("repeat", 0, (p(1, x3=1),)))
        expected = ("loop", 1, "product", 0, ((1, 1), (3,)))
        check_error(self, NotTold, {"reason": expected}, run_of, behind, ((0, 1),))
        fibonacci = two(("repeat", 0, (p(2, x=1, y=1), p(2, x=1))))
        expected = ("loop", 0, "irrational", (0, 1), ((-1, 1), (-1, 1), (1, 1)))
        check_error(self, NotTold, {"reason": expected}, run_of, fibonacci, ((1, 1), (1, 1)))
        # Maps of sets need not be told.
        check_call(self, ("done", (), ((9, 1),)), run_of, one(("set", SQUARE)), ((3, 1),))

    def test_argument_errors(self):
        program = two(("while", ALWAYS, (p(2, x=1, y=1), p(2, x=1))))
        for bad in ODD_VALUES + [(("x", "y"), ()), Program, "program"]:
            check_error(self, BadValue, {"name": "program"}, run_of, bad, None)
        start = ((1, 1), (2, 1))
        for bad in ODD_VALUES + [list(start), start[:1], start + start[:1], ((1001, 1), (0, 1)), ((-1001, 1), (0, 1)),
                                 ((0, 1), (1, 13)), ((2, 2), (1, 1)), ((1, -1), (1, 1)), ((True, 1), (1, 1))]:
            check_error(self, BadValue, {"name": "state"}, run_of, program, bad)


class AgreementTests(unittest.TestCase):
    def test_with_walk(self):
        picker = Picker(94)
        seen = {}
        for _ in range(600):
            program = some_program(picker)
            state = tuple([r(picker.number(-3, 9)) if picker.number(0, 5) else picker.rational(9, 3)
                           for _ in program.names])
            if any(why_not(loop[-1]) is not None for loop in program.loops()):
                with self.assertRaises(NotTold):
                    run_of(program, state)
                continue
            found = run_of(program, state)
            walked = walk(program, state, 60)
            seen[found[0]] = seen.get(found[0], 0) + 1
            self.check_same(program, state, found, walked)
        self.assertGreater(seen["done"], 60)
        self.assertGreater(seen["never"], 60)
        self.assertGreater(seen["stopped"], 60)

    def check_same(self, program, state, found, walked):
        many = sum(count for loop, count in found[1])
        if many <= 60 and found[0] == "done":
            self.assertEqual(walked, found, (program.body, state))
        elif many <= 60 and found[0] == "never":
            self.assertIn(walked[0], ("limit", "numbers"))
            self.assertEqual(walked[1:], found[1:])
        elif many <= 60 and found[-1] == "count":
            # A number of rounds that is too great for run_of is no break.
            self.assertIn(walked[0], ("count", "limit"))
            self.assertEqual(walked[1:], found[1:3])
        shared = min(len(walked[1]), len(found[1]))
        self.assertEqual(walked[1][:shared], found[1][:shared])
        if walked[0] == "done":
            self.assertIn(found[0], ("done", "stopped"))

    def test_with_rounds(self):
        """Point 94 for a loop alone: its rounds are those of its condition."""
        rules = (p(2, x=1, y=1), p(2, y=1, one=-1))
        for x in range(-6, 7, 3):
            for y in range(-4, 9, 2):
                for condition in [("lt", p(2, x=1, one=-9)), ("not", ("eq", p(2, x=1))), ("le", p(2, xy=1, one=-20))]:
                    start = ((x, 1), (y, 1))
                    rounds = rounds_of(rules, start, condition)
                    word, told, last = run_of(two(("while", condition, rules)), start)
                    if word == "never":
                        self.assertEqual(rounds, (((0, True),), ((1, True),)))
                        continue
                    (loop, many), = told
                    self.assertEqual((word, loop, last), ("done", 0, state_at(rules, start, many)))
                    self.assertEqual([is_in(rounds, n) for n in range(many + 1)], [True] * many + [False])


if __name__ == "__main__":
    unittest.main()
