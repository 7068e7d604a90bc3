"""Programs (points 85 to 88)."""

import unittest

from helpers import ODD_VALUES, check_call, p
from roundknown.errors import BadProgram, RoundError
from roundknown.programs import Program, is_name

KEEP = (p(1, x=1),)
DOUBLE = (p(1, x=2),)
LESS = ("lt", p(1, x=1, one=-20))
SET = ("set", KEEP)
WHILE = ("while", LESS, DOUBLE)
REPEAT = ("repeat", 0, DOUBLE)
IF = ("if", LESS, (SET,), (WHILE, SET))


def nested(depth, statement):
    """A block with the statement in a block of this depth, and the place of the statement."""
    block, place = (statement,), ()
    for count in range(depth - 1):
        word = ("then", "else")[count % 2]
        block = (("if", LESS, block, ()) if word == "then" else ("if", LESS, (), block),)
        place = (0, word) + place
    return block, ("body",) + place + (0,)


class NameTests(unittest.TestCase):
    def test_names(self):
        for good in ["x", "z", "a1", "x0", "abcdefgh", "a2345678", "vars", "nota", "an", "ifs", "o", "repeats", "whil"]:
            check_call(self, True, is_name, good)

    def test_no_names(self):
        bad_names = ["", "X", "aB", "1", "1a", "_", "a_b", "_a", "a b", " a", "a ", "a\n", "abcdefghi", "a23456789",
                     "a.b", "\u00e9", "a\u00e9", "\u00df", "a\u0663", "\u03b1", "a-", "a\x00"]
        for bad in bad_names + ["var", "if", "else", "while", "repeat", "and", "or", "not"] + ODD_VALUES:
            check_call(self, bad == "map", is_name, bad)
        for bad in [b"x", ["x"], ("x",), {"x": 1}]:
            check_call(self, False, is_name, bad)


class ProgramTests(unittest.TestCase):
    def check_problem(self, where, why, names, body):
        with self.assertRaises(BadProgram) as caught:
            Program(names=names, body=body)
        self.assertEqual((caught.exception.where, caught.exception.why), (where, why), body)
        self.assertIs(type(caught.exception.where), tuple)
        self.assertIsInstance(caught.exception, RoundError)

    def check_body(self, where, why, *body, names=("x",)):
        self.check_problem(where, why, names, body)

    def test_example(self):
        limit = ("lt", (((1, 1), (1,)), ((-100, 20), (0,))))
        start = ("set", ((((1, 1), (0,)),),))
        self.check_body(("body", 1), "polynomial", start, ("while", limit, DOUBLE))
        program = Program(names=("x",), body=(start, ("while", LESS, DOUBLE)))
        self.assertEqual(program.loops(), [program.body[1]])
        self.assertEqual([place for place, statement in program.statements()], [("body", 0), ("body", 1)])

    def test_attributes(self):
        for names in [("x",), ("a", "b"), ("a", "a1", "b")]:
            keep = tuple([((((1, 1)), tuple([int(i == j) for j in range(len(names))])),) for i in range(len(names))])
            body = (("set", keep), ("repeat", len(names) - 1, keep))
            program = Program(names=names, body=body)
            self.assertEqual((program.names, program.body), (names, body))
            self.assertIs(type(program.names), tuple)
            self.assertIs(type(program.body), tuple)
            self.assertEqual(program.loops(), [body[1]])

    def test_by_keyword_only(self):
        with self.assertRaises(TypeError):
            Program(("x",), ())

    def test_empty(self):
        program = Program(names=("x",), body=())
        self.assertEqual((program.loops(), program.statements()), ([], []))
        program = Program(names=("x",), body=(("if", LESS, (), ()),))
        self.assertEqual(program.loops(), [])
        self.assertEqual(program.statements(), [(("body", 0), program.body[0])])

    def test_order_of_the_text(self):
        inner = ("if", LESS, (REPEAT, SET), (WHILE,))
        body = (SET, ("if", LESS, (SET, inner), (WHILE, ("if", LESS, (), (SET,)))), REPEAT)
        program = Program(names=("x",), body=body)
        expected = [
            (("body", 0), SET), (("body", 1), body[1]), (("body", 1, "then", 0), SET), (("body", 1, "then", 1), inner),
            (("body", 1, "then", 1, "then", 0), REPEAT), (("body", 1, "then", 1, "then", 1), SET),
            (("body", 1, "then", 1, "else", 0), WHILE), (("body", 1, "else", 0), WHILE),
            (("body", 1, "else", 1), body[1][3][1]), (("body", 1, "else", 1, "else", 0), SET), (("body", 2), REPEAT),
        ]
        self.assertEqual(program.statements(), expected)
        self.assertEqual(program.loops(), [REPEAT, WHILE, WHILE, REPEAT])

    def test_changed_lists(self):
        program = Program(names=("x",), body=(IF, REPEAT))
        loops, statements = program.loops(), program.statements()
        self.assertEqual((type(loops), type(statements)), (list, list))
        loops.clear()
        statements.reverse()
        statements.append(None)
        self.assertEqual(program.loops(), [WHILE, REPEAT])
        self.assertEqual([place for place, statement in program.statements()], [
            ("body", 0), ("body", 0, "then", 0), ("body", 0, "else", 0), ("body", 0, "else", 1), ("body", 1)])

    def test_names(self):
        for bad in [None, "x", ["x"], (1,), ("x", None), ("x", b"y"), {"x"}, (("x",),), ("1", 2)]:
            self.check_problem(("names",), "form", bad, None)
        self.check_problem(("names",), "form", ("if", 1, 2, 3), None)
        for bad in [(), ("a", "b", "c", "d"), ("if",) * 4, ("",) * 5]:
            self.check_problem(("names",), "many", bad, None)
        for index in range(3):
            for bad in ["", "if", "X", "abcdefghi", "1"]:
                names = tuple([bad if place == index else "abc"[place] for place in range(3)])
                self.check_problem(("names", index), "name", names, None)
        for bad, index in [(("a", "a"), 1), (("b", "a"), 1), (("a", "c", "b"), 2), (("a", "b", "b"), 2),
                           (("ab", "a"), 1), (("aa", "a1"), 1), (("a2", "a10"), 1), (("b", "a", "if"), 1)]:
            self.check_problem(("names", index), "order", bad, None)
        self.check_problem(("names", 1), "name", ("b", "A"), None)
        self.check_problem(("names", 0), "name", ("not", "a", "a"), None)
        for good in [("a", "ab"), ("a1", "aa"), ("a10", "a2"), ("a", "a0", "b")]:
            self.assertEqual(Program(names=good, body=()).names, good)

    def test_body_form(self):
        for bad in [odd for odd in ODD_VALUES if not isinstance(odd, tuple)]:
            self.check_problem(("body",), "form", ("x",), bad)
            self.check_problem(("names",), "many", (), bad)
        self.check_problem(("body",), "form", ("x",), [SET])

    def test_statement_forms(self):
        bad_statements = ODD_VALUES + [
            list(SET), ("set",), ("set", KEEP, KEEP), ("Set", KEEP), (b"set", KEEP), ("let", KEEP), ("else", KEEP),
            list(WHILE), WHILE[:2], WHILE + (0,), list(IF), IF[:3], IF + ((),), ("if", LESS, [SET], ()),
            ("if", LESS, (), [SET]), ("if", LESS, None, ()), ("if", LESS, (), "ab"), ("if", None, SET, None),
            list(REPEAT), REPEAT[:2], REPEAT + (0,), ("repeat", True, DOUBLE), ("repeat", False, DOUBLE),
            ("repeat", None, DOUBLE), ("repeat", "x", DOUBLE), ("repeat", (0,), DOUBLE), ("repeat", 0.0, DOUBLE),
            ("while", DOUBLE), ("set", LESS, DOUBLE), ("repeat", LESS), (0, KEEP), ((), KEEP), (["set"], KEEP),
        ]
        for bad in bad_statements:
            self.check_body(("body", 0), "form", bad)
            self.check_body(("body", 1), "form", SET, bad, None)
            self.check_body(("body", 0, "else", 1), "form", ("if", LESS, (SET,), (SET, bad)))
            self.check_body(("body", 0, "then", 0), "form", ("if", LESS, (bad,), (None,)), None)

    def test_many(self):
        Program(names=("x",), body=(SET,) * 12)
        self.check_body(("body", 12), "many", *((SET,) * 13))
        self.check_body(("body", 12), "many", *((SET,) * 100))
        self.check_body(("body", 12), "many", *((SET,) * 12 + (None,)))
        self.check_body(("body", 11), "form", *((SET,) * 11 + (None,)))
        # Those in blocks count, and the if itself.
        eleven = ("if", LESS, (SET,) * 5, (SET,) * 5)
        Program(names=("x",), body=(eleven, SET))
        self.check_body(("body", 2), "many", eleven, SET, SET)
        self.check_body(("body", 1, "else", 4), "many", SET, ("if", LESS, (SET,) * 6, (SET,) * 5))
        self.check_body(("body", 0, "then", 11), "many", ("if", LESS, (SET,) * 12, (None,)))

    def test_deep(self):
        for depth in (1, 2, 3, 4):
            block, place = nested(depth, WHILE)
            program = Program(names=("x",), body=block)
            self.assertEqual(program.statements()[-1], (place, WHILE))
        for depth in (5, 6, 9):
            for statement in (SET, WHILE, None):
                block, place = nested(depth, statement)
                self.check_body(place[:10], "deep", *block)
        # An empty block may be as deep as it is.
        Program(names=("x",), body=nested(4, ("if", LESS, (), ()))[0])

    def test_loops(self):
        Program(names=("x",), body=(WHILE, REPEAT) * 2)
        self.check_body(("body", 4), "loops", *((WHILE, REPEAT) * 2 + (WHILE,)))
        self.check_body(("body", 5), "loops", *((WHILE, REPEAT) * 2 + (SET, REPEAT)))
        self.check_body(("body", 2, "else", 0), "loops", WHILE, REPEAT, ("if", LESS, (WHILE, WHILE), (REPEAT,)))
        self.check_body(("body", 4), "form", *((WHILE, REPEAT) * 2 + (("repeat", True, None),)))
        self.check_body(("body", 4), "loops", *((WHILE, REPEAT) * 2 + (("repeat", 5, None),)))
        self.check_body(("body", 4), "loops", *((WHILE, REPEAT) * 2 + (("while", None, None),)))

    def test_conditions(self):
        five = ("not", ("not", ("not", ("not", LESS))))
        seven = ("and", (("or", (LESS,) * 6), LESS))
        cases = [(five, "nested"), (None, "condition"), (("and", (LESS,)), "condition"), (seven, "comparisons"),
                 (("lt", p(2, x=1)), "polynomial"), (("lt", None), "polynomial"),
                 (("not", ("eq", p(1, x=21))), "polynomial")]
        for condition, why in cases:
            self.check_body(("body", 0), why, ("while", condition, None))
            self.check_body(("body", 0), why, ("if", condition, (None,), (None,)))
            self.check_body(("body", 1, "then", 0), why, SET, ("if", LESS, (("while", condition, DOUBLE),), ()))
            self.check_body(("body", 1), why, SET, ("if", condition, (), ()))
        for good in [five[1], seven[1][0], ("eq", ())]:
            Program(names=("x",), body=(("while", good, DOUBLE), ("if", good, (), ())))

    def test_variables(self):
        for k in (1, 2, 3):
            names = ("a", "b", "c")[:k]
            keep = tuple([(((1, 1), tuple([int(i == j) for j in range(k)])),) for i in range(k)])
            for good in range(k):
                Program(names=names, body=(("repeat", good, keep),))
            for bad in (-1, k, k + 1, 10 ** 40):
                self.check_body(("body", 0), "variable", ("repeat", bad, keep), names=names)
                self.check_body(("body", 0), "variable", ("repeat", bad, None), names=names)
            self.check_body(("body", 0), "form", ("repeat", True, keep), names=names)

    def test_maps(self):
        two = (p(2, x=1), p(2, y=1))
        for bad in [None, list(DOUBLE), two, (p(1, x4=1),), (p(1, x=21),), (p(1, x=1, one=1)[::-1],), (), ((), ())]:
            for statement in [("set", bad), ("while", LESS, bad), ("repeat", 0, bad)]:
                self.check_body(("body", 0), "map", statement)
                self.check_body(("body", 0, "else", 1), "map", ("if", LESS, (), (SET, statement)))
        self.check_body(("body", 0), "map", ("set", DOUBLE), names=("a", "b"))
        Program(names=("a", "b"), body=(("set", two),))
        # Maps need not be told.
        Program(names=("x",), body=(("while", LESS, (p(1, x2=1),)),))

    def test_first_problem(self):
        self.check_body(("body", 0), "map", ("set", None), None)
        self.check_body(("body", 0), "form", None, ("set", None))
        self.check_body(("body", 0), "condition", ("if", None, (None,), ()), ("set", None))
        # An if is checked before its blocks, and the first block before the second one.
        self.check_body(("body", 0, "then", 0), "map", ("if", LESS, (("set", None),), (None,)), None)
        self.check_body(("body", 0, "else", 0), "form", ("if", LESS, (), (None,)), None)
        # Many before deep before form before loops before the condition before the map.
        deep = nested(5, None)[0]
        self.check_body(nested(5, None)[1], "deep", *deep)
        # The last statement is the 12th with 7 sets, and the 13th with 8.
        for count, why in [(7, "deep"), (8, "many")]:
            filled = ("if", LESS, (SET,) * count + nested(4, None)[0], ())
            self.check_body(("body", 0, "then", count) + nested(4, None)[1][2:], why, filled)
        self.check_body(("body", 0), "condition", ("while", None, None))
        self.check_body(("body", 0), "variable", ("repeat", 1, None))


if __name__ == "__main__":
    unittest.main()
