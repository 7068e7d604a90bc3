"""Walking through programs round by round (points 89 to 91)."""

import unittest
from fractions import Fraction

from helpers import ODD_VALUES, Picker, check_call, check_error, fraction_value, p, r
from roundknown.errors import BadValue
from roundknown.polynomials import polynomial
from roundknown.programs import Program
from roundknown.walking import walk

STEP = (p(1, x=1, one=1),)
DOUBLE = (p(1, x=2),)
SQUARE = (p(1, x2=1),)
ALWAYS, NEVER = ("eq", ()), ("lt", ())


def below(number):
    """The condition that x is less than a number."""
    return ("lt", polynomial(1, [((1, 1), (1,)), ((-number, 1), (0,))]))


def one(*body):
    return Program(names=("x",), body=body)


def two(*body):
    return Program(names=("x", "y"), body=body)


def some_map(picker, k):
    """A told or not told map of small linear polynomials, sometimes with a product."""
    rules = []
    for i in range(k):
        rows = [((1, 1), tuple([int(i == j) for j in range(k)]))] if picker.number(0, 3) else []
        if picker.number(0, 2):
            rows.append((r(picker.number(-3, 3)), (0,) * k))
        if picker.number(0, 3) == 0:
            rows.append((r(picker.number(-2, 2)), tuple([int(j == picker.number(0, k - 1)) for j in range(k)])))
        if picker.number(0, 12) == 0:
            rows.append(((1, 1), tuple([picker.number(0, 1) for _ in range(k)])))
        rules.append(polynomial(k, rows))
    return tuple(rules)


def some_test(picker, k):
    word = ("eq", "lt", "le", "lt")[picker.number(0, 3)]
    rows = [(r(picker.number(-2, 2)), tuple([int(i == j) for j in range(k)])) for i in range(k)]
    condition = (word, polynomial(k, rows + [(r(picker.number(-9, 9)), (0,) * k)]))
    return ("not", condition) if picker.number(0, 2) == 0 else condition


def some_block(picker, k, depth, left):
    """A block of a few statements; left is a list with the number of loops that may still come."""
    block = []
    for _ in range(picker.number(1, 3) if depth > 1 else 4):
        word = ("set", "if", "while", "repeat")[picker.number(0, 3)]
        if word == "if" and depth < 3:
            blocks = [some_block(picker, k, depth + 1, left) if picker.number(0, 1) else () for _ in range(2)]
            block.append(("if", some_test(picker, k), *blocks))
        elif word in ("while", "repeat") and left[0] > 0:
            left[0] -= 1
            head = some_test(picker, k) if word == "while" else picker.number(0, k - 1)
            block.append((word, head, some_map(picker, k)))
        else:
            block.append(("set", some_map(picker, k)))
    return tuple(block)


def count_statements(block):
    return sum(1 + sum(count_statements(part) for part in statement[2:]) if statement[0] == "if" else 1
               for statement in block)


def some_program(picker):
    k = picker.number(1, 3)
    while True:
        body = some_block(picker, k, 1, [4])
        if count_statements(body) <= 12:
            return Program(names=("a", "b", "c")[:k], body=body)


class Stop(Exception):
    """The end of a slow run."""


class SlowRun:
    """An interpreter of programs with fractions, straight from points 89 to 91."""

    def __init__(self, program, state, limit):
        self.state = [Fraction(*number) for number in state]
        self.limit = limit
        self.told = []
        self.places = [place for place, statement in program.statements() if statement[0] in ("while", "repeat")]
        self.body = program.body

    def run(self):
        try:
            self.block(("body",), self.body)
        except Stop as stop:
            return (stop.args[0], tuple(self.told), stop.args[1])
        return ("done", tuple(self.told), tuple([(number.numerator, number.denominator) for number in self.state]))

    def holds(self, condition):
        word, content = condition
        if word == "not":
            return not self.holds(content)
        if word in ("and", "or"):
            return (all if word == "and" else any)(self.holds(member) for member in content)
        number = fraction_value(content, self.state)
        return {"eq": number == 0, "lt": number < 0, "le": number <= 0}[word]

    def round(self, place, rules):
        self.state = [fraction_value(rule, self.state) for rule in rules]
        if any(abs(number.numerator) >= 10 ** 400 or number.denominator >= 10 ** 400 for number in self.state):
            raise Stop("numbers", place)

    def block(self, place, block):
        for index, statement in enumerate(block):
            self.statement(place + (index,), statement)

    def statement(self, place, statement):
        if statement[0] == "set":
            self.round(place, statement[1])
        elif statement[0] == "if":
            yes = self.holds(statement[1])
            self.block(place + ("then" if yes else "else",), statement[2 if yes else 3])
        else:
            self.loop(place, *statement)

    def loop(self, place, word, head, rules):
        count = 0
        wanted = self.state[head] if word == "repeat" else None
        if wanted is not None and (wanted.denominator != 1 or wanted < 0):
            raise Stop("count", place)
        while (self.holds(head) if wanted is None else count < wanted):
            if self.limit == 0:
                raise Stop("limit", place)
            self.limit -= 1
            self.round(place, rules)
            count += 1
        self.told.append((self.places.index(place), count))


class WalkTests(unittest.TestCase):
    def test_example(self):
        loop = ("while", ("not", ("lt", p(2, y=1))), (p(2, x=2, y=1), p(2, y=1, one=-1)))
        check_call(self, ("limit", (), ("body", 0)), walk, two(loop), ((1, 1), (10, 1)), 10)
        done = ("done", ((0, 11),), ((20482, 1), (-1, 1)))
        check_call(self, done, walk, two(loop), ((1, 1), (10, 1)), 11)

    def test_done(self):
        for limit in (0, 1, 60):
            check_call(self, ("done", (), ((7, 2),)), walk, one(), ((7, 2),), limit)
            check_call(self, ("done", (), ((9, 2),)), walk, one(("set", STEP)), ((7, 2),), limit)
            check_call(self, ("done", ((0, 0),), ((5, 1),)), walk, one(("while", below(5), STEP)), ((5, 1),), limit)
            check_call(self, ("done", ((0, 0),), ((0, 1),)), walk, one(("repeat", 0, STEP)), ((0, 1),), limit)
        # All variables get their new values at once.
        swap = (p(2, y=1), p(2, x=1))
        check_call(self, ("done", (), ((2, 1), (1, 1))), walk, two(("set", swap)), ((1, 1), (2, 1)), 0)

    def test_limit(self):
        loop = one(("while", below(5), STEP))
        for limit in range(5):
            check_call(self, ("limit", (), ("body", 0)), walk, loop, ((0, 1),), limit)
        for limit in (5, 6, 60):
            check_call(self, ("done", ((0, 5),), ((5, 1),)), walk, loop, ((0, 1),), limit)
        for start, limit, ended in [(60, 60, True), (61, 60, False), (1, 1, True), (1, 0, False), (2, 1, False)]:
            expected = ("limit", (), ("body", 0))
            if ended:
                expected = ("done", ((0, start),), ((2 * start, 1),))
            check_call(self, expected, walk, one(("repeat", 0, STEP)), ((start, 1),), limit)
        # The rounds of all loops count together.
        both = one(("while", below(3), STEP), ("set", DOUBLE), ("while", below(9), STEP))
        check_call(self, ("limit", ((0, 3),), ("body", 2)), walk, both, ((0, 1),), 5)
        check_call(self, ("done", ((0, 3), (1, 3)), ((9, 1),)), walk, both, ((0, 1),), 6)
        check_call(self, ("limit", (), ("body", 0)), walk, both, ((0, 1),), 2)
        check_call(self, ("limit", (), ("body", 0)), walk, one(("while", ALWAYS, STEP)), ((0, 1),), 60)

    def test_repeat(self):
        # The value when the loop is reached counts, whatever the rounds do to the variable.
        check_call(self, ("done", ((0, 3),), ((24, 1),)), walk, one(("repeat", 0, DOUBLE)), ((3, 1),), 60)
        emptied = (p(2, x=1, one=5), ())
        expected = ("done", ((0, 4),), ((21, 1), (0, 1)))
        check_call(self, expected, walk, two(("repeat", 1, emptied)), ((1, 1), (4, 1)), 60)
        check_call(self, ("limit", (), ("body", 0)), walk, two(("repeat", 1, emptied)), ((1, 1), (4, 1)), 3)
        for bad in [(-1, 1), (1, 2), (-7, 3), (-1000, 1)]:
            check_call(self, ("count", (), ("body", 0)), walk, one(("repeat", 0, STEP)), (bad,), 60)
        late = one(("while", below(5), STEP), ("repeat", 0, DOUBLE))
        check_call(self, ("count", ((0, 6),), ("body", 1)), walk, late, ((-1, 2),), 60)
        check_call(self, ("count", ((0, 6),), ("body", 1)), walk, late, ((-1, 2),), 6)
        check_call(self, ("limit", (), ("body", 0)), walk, late, ((-1, 2),), 5)
        # A value that no walk can reach.
        far = one(("set", SQUARE), ("set", SQUARE), ("repeat", 0, STEP))
        check_call(self, ("limit", (), ("body", 2)), walk, far, ((1000, 1),), 60)

    def test_blocks(self):
        inner = ("if", below(3), (("repeat", 0, STEP),), (("while", below(9), STEP),))
        body = (("if", below(0), (), (inner, ("set", DOUBLE))), ("repeat", 0, STEP))
        program = one(*body)
        check_call(self, ("done", ((0, 2), (2, 8)), ((16, 1),)), walk, program, ((2, 1),), 60)
        check_call(self, ("done", ((1, 5), (2, 18)), ((36, 1),)), walk, program, ((4, 1),), 60)
        check_call(self, ("count", (), ("body", 1)), walk, program, ((-1, 1),), 60)
        check_call(self, ("limit", (), ("body", 0, "else", 0, "then", 0)), walk, program, ((2, 1),), 1)
        check_call(self, ("limit", (), ("body", 0, "else", 0, "else", 0)), walk, program, ((4, 1),), 4)
        check_call(self, ("limit", ((0, 2),), ("body", 1)), walk, program, ((2, 1),), 9)
        check_call(self, ("count", (), ("body", 0, "else", 0, "then", 0)), walk, program, ((1, 2),), 9)

    def test_equal_loops(self):
        loop = ("while", below(5), STEP)
        program = one(("if", below(0), (loop,), (loop,)), ("set", ((),)), loop, loop)
        check_call(self, ("done", ((1, 5), (2, 5), (3, 0)), ((5, 1),)), walk, program, ((0, 1),), 60)
        check_call(self, ("done", ((0, 6), (2, 5), (3, 0)), ((5, 1),)), walk, program, ((-1, 1),), 60)

    def test_numbers(self):
        # Seven squares of 1000 are 10 to the power 384, and those of 1/10, cubed, have that as denominator.
        ten, tenth, cube = (p(1, x=10),), (p(1, x=(-1, 10)),), (p(1, x3=1),)
        large = [("set", SQUARE)] * 7
        small = large + [("set", cube)]
        for sets, start, rules in [(large, (1000, 1), ten), (small, (1, 10), tenth), (small, (-1, 10), tenth)]:
            place = ("body", len(sets))
            number = walk(one(*sets), (start,), 0)[2][0]
            self.assertEqual(max(abs(number[0]), number[1]), 10 ** 384)
            check_call(self, ("numbers", (), place), walk, one(*sets, ("set", SQUARE)), (start,), 0)
            loop = one(*sets, ("while", ALWAYS, rules))
            check_call(self, ("limit", (), place), walk, loop, (start,), 15)
            check_call(self, ("numbers", (), place), walk, loop, (start,), 16)
            check_call(self, ("numbers", (), place), walk, loop, (start,), 60)
            # What was told before stands.
            more = one(*sets, ("while", NEVER, rules), ("while", ALWAYS, rules))
            check_call(self, ("numbers", ((0, 0),), ("body", len(sets) + 1)), walk, more, (start,), 60)
        check_call(self, ("numbers", (), ("body", 7)), walk, one(*large, ("repeat", 0, ten)), ((1000, 1),), 60)
        # The set of a block, and a number that is no longer needed.
        block = one(*large, ("if", ALWAYS, (("set", SQUARE),), ()), ("set", ((),)))
        check_call(self, ("numbers", (), ("body", 7, "then", 0)), walk, block, ((1000, 1),), 0)
        beside = (p(2, x2=1), p(2, y=1))
        check_call(self, ("numbers", (), ("body", 7)), walk, two(*[("set", beside)] * 9), ((1000, 1), (1, 1)), 0)

    def test_against_fractions(self):
        picker = Picker(91)
        words = {}
        for _ in range(500):
            program = some_program(picker)
            state = tuple([r(picker.number(-3, 9)) if picker.number(0, 5) else picker.rational(9, 3)
                           for _ in program.names])
            limit = (picker.number(0, 60), 60)[picker.number(0, 1)]
            expected = SlowRun(program, state, limit).run()
            check_call(self, expected, walk, program, state, limit)
            words[expected[0]] = words.get(expected[0], 0) + 1
        for word in ("done", "count", "limit"):
            self.assertGreater(words[word], 40)


class ErrorTests(unittest.TestCase):
    def test_errors(self):
        program = two(("while", ALWAYS, (p(2, x=1), p(2, y=1))))
        for bad in ODD_VALUES + [(("x", "y"), ()), Program, "program"]:
            check_error(self, BadValue, {"name": "program"}, walk, bad, None, None)
        start = ((1, 1), (2, 1))
        bad_states = ODD_VALUES + [list(start), start[:1], start + start[:1], ((1001, 1), (0, 1)), ((-1001, 1), (0, 1)),
                                   ((0, 1), (1, 13)), ((2, 2), (1, 1)), ((1, -1), (1, 1)), ((True, 1), (1, 1))]
        for bad in bad_states:
            check_error(self, BadValue, {"name": "state"}, walk, program, bad, None)
        for bad in [True, False, None, -1, 61, "1", (1,), 1.0, 10 ** 40]:
            check_error(self, BadValue, {"name": "limit"}, walk, program, start, bad)
        self.assertEqual(walk(program, ((1000, 1), (-1000, 11)), 1)[0], "limit")


if __name__ == "__main__":
    unittest.main()
