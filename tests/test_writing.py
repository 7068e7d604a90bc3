"""The texts of programs, polynomials and conditions (points 138 to 141)."""

import unittest

from helpers import ODD_VALUES, Picker, check_call, check_error, p, r
from roundknown.conditions import is_condition
from roundknown.errors import BadValue
from roundknown.maps import is_map
from roundknown.polynomials import polynomial
from roundknown.programs import Program
from roundknown.reading import read_condition, read_polynomial, read_program
from roundknown.scanning import scan
from roundknown.writing import condition_text, polynomial_text, program_text
from test_conditions import some_condition
from test_walking import some_program

NAMES = ("a", "bc", "d1")
A, B, C, D = ("eq", p(2, x=1)), ("lt", p(2, y=1, one=-3)), ("le", p(2, x=-1)), ("eq", ())
A_TEXT, B_TEXT, C_TEXT, D_TEXT = "x = 0", "y - 3 < 0", "-x <= 0", "0 = 0"
XY = ("x", "y")
ONE, TWO = (p(1, one=1),), (p(1, x=2),)


def content(program):
    return (program.names, program.body)


def some_polynomial(picker, k):
    """A polynomial of point 83."""
    rows = [(r((-1) ** picker.number(0, 1) * picker.number(0, 20), picker.number(1, 20)),
             tuple([picker.number(0, 3) for _ in range(k)])) for _ in range(picker.number(0, 5))]
    rows.append((r(picker.number(-1, 1)), tuple([picker.number(0, 1) for _ in range(k)])))
    found = polynomial(k, rows)
    good = all(abs(n) <= 20 and d <= 20 for (n, d), exponents in found)
    return found if good else some_polynomial(picker, k)


class PolynomialTests(unittest.TestCase):
    def test_each_rule(self):
        for expected, told in [
            ("0", ()), ("1", p(3, one=1)), ("-1", p(3, one=-1)), ("7", p(3, one=7)), ("-20", p(3, one=-20)),
            ("1/2", p(3, one=(1, 2))), ("-19/20", p(3, one=(-19, 20))), ("a", p(3, x=1)), ("-a", p(3, x=-1)),
            ("bc", p(3, y=1)), ("2*d1", p(3, z=2)), ("-2*d1", p(3, z=-2)), ("1/3*a", p(3, x=(1, 3))),
            ("-5/3*a", p(3, x=(-5, 3))), ("a^2", p(3, x2=1)), ("-a^3", p(3, x3=-1)), ("a*bc", p(3, xy=1)),
            ("a^2*bc*d1^3", p(3, x2yz3=1)), ("-3/4*a*d1^2", p(3, xz2=(-3, 4))), ("bc^3*d1", p(3, y3z=1)),
            ("a + 1", p(3, x=1, one=1)), ("a - 1", p(3, x=1, one=-1)), ("-a - 1", p(3, x=-1, one=-1)),
            ("-a + 1/2", p(3, x=-1, one=(1, 2))), ("a^2 - 2*a*bc + bc^2", p(3, x2=1, xy=-2, y2=1)),
            ("a - bc - d1", p(3, x=1, y=-1, z=-1)), ("d1^2 + 1/20*a - 1/20", p(3, z2=1, x=(1, 20), one=(-1, 20))),
            ("-a^3*bc^3*d1^3 + a^3*bc^3 + a^3 - a^2 + a + 20", p(3, x3y3z3=-1, x3y3=1, x3=1, x2=-1, x=1, one=20)),
        ]:
            check_call(self, expected, polynomial_text, NAMES, told)
            check_call(self, told, read_polynomial, NAMES, expected)
        check_call(self, "-x", polynomial_text, ("x",), p(1, x=-1))
        check_call(self, "y - 1", polynomial_text, ("x", "y"), p(2, y=1, one=-1))

    def test_what_is_read_again(self):
        picker = Picker(138)
        texts = {}
        for _ in range(400):
            k = picker.number(1, 3)
            told = some_polynomial(picker, k)
            text = polynomial_text(NAMES[:k], told)
            self.assertEqual(read_polynomial(NAMES[:k], text), told)
            self.assertEqual(polynomial_text(NAMES[:k], read_polynomial(NAMES[:k], text)), text)
            self.assertEqual(texts.setdefault((k, text), told), told)
            self.assertEqual(text, " ".join(text.split()))

    def test_refusals(self):
        good = p(1, x=1)
        for bad in ODD_VALUES + [("b", "a"), ("a", "a"), ("a", "b", "c", "d"), ["a"], "a", ("A",), ("if",), ("a" * 9,)]:
            check_error(self, BadValue, {"name": "names"}, polynomial_text, bad, good)
            check_error(self, BadValue, {"name": "names"}, polynomial_text, bad, None)
            check_error(self, BadValue, {"name": "names"}, condition_text, bad, ("eq", good))
            check_error(self, BadValue, {"name": "names"}, condition_text, bad, None)
        for bad in ODD_VALUES + [p(2, x=1), p(1, x=21), p(1, x4=1), p(1, x=(1, 21)), [((1, 1), (1,))],
                                 (((2, 2), (1,)),),
                                 (((0, 1), (1,)),), (((1, 1), (0,)), ((1, 1), (1,)))]:
            if bad != ():
                check_error(self, BadValue, {"name": "polynomial"}, polynomial_text, ("x",), bad)
                check_error(self, BadValue, {"name": "condition"}, condition_text, ("x",), ("eq", bad))
        check_error(self, BadValue, {"name": "polynomial"}, polynomial_text, ("x", "y"),
                    p(2, x=1, y=1, xy=1, x2=1, y2=1, x3=1, one=1))


class ConditionTests(unittest.TestCase):
    def check_text(self, expected, told):
        check_call(self, expected, condition_text, XY, told)
        check_call(self, told, read_condition, XY, expected)

    def test_comparisons(self):
        for told, text in [(A, A_TEXT), (B, B_TEXT), (C, C_TEXT), (D, D_TEXT), (("lt", ()), "0 < 0"),
                           (("le", p(2, xy=(1, 2), one=-1)), "1/2*x*y - 1 <= 0")]:
            self.check_text(text, told)

    def test_not(self):
        self.check_text("x != 0", ("not", A))
        self.check_text("0 != 0", ("not", D))
        self.check_text("not y - 3 < 0", ("not", B))
        self.check_text("not -x <= 0", ("not", C))
        self.check_text("not (x != 0)", ("not", ("not", A)))
        self.check_text("not (not y - 3 < 0)", ("not", ("not", B)))
        self.check_text("not (not (x != 0))", ("not", ("not", ("not", A))))
        self.check_text("not (x = 0 and y - 3 < 0)", ("not", ("and", (A, B))))
        self.check_text("not (x = 0 or x != 0)", ("not", ("or", (A, ("not", A)))))

    def test_joined(self):
        both, either = ("and", (A, B)), ("or", (A, B))
        self.check_text("x = 0 and y - 3 < 0", both)
        self.check_text("x = 0 or y - 3 < 0", either)
        self.check_text("x = 0 and y - 3 < 0 and -x <= 0 and 0 = 0", ("and", (A, B, C, D)))
        self.check_text("x = 0 or y - 3 < 0 or -x <= 0 or 0 = 0", ("or", (A, B, C, D)))
        self.check_text("(x = 0 and y - 3 < 0) and -x <= 0", ("and", (both, C)))
        self.check_text("-x <= 0 and (x = 0 and y - 3 < 0)", ("and", (C, both)))
        self.check_text("(x = 0 or y - 3 < 0) and -x <= 0", ("and", (either, C)))
        self.check_text("-x <= 0 and (x = 0 or y - 3 < 0)", ("and", (C, either)))
        self.check_text("x = 0 and y - 3 < 0 or -x <= 0", ("or", (both, C)))
        self.check_text("-x <= 0 or x = 0 and y - 3 < 0", ("or", (C, both)))
        self.check_text("(x = 0 or y - 3 < 0) or -x <= 0", ("or", (either, C)))
        self.check_text("-x <= 0 or (x = 0 or y - 3 < 0)", ("or", (C, either)))
        self.check_text("x != 0 and not y - 3 < 0", ("and", (("not", A), ("not", B))))
        self.check_text("x != 0 or not y - 3 < 0", ("or", (("not", A), ("not", B))))
        self.check_text("not (x = 0 and y - 3 < 0) and not (x = 0 or y - 3 < 0)",
                        ("and", (("not", both), ("not", either))))
        self.check_text("((x = 0 or y - 3 < 0) and -x <= 0) and 0 = 0", ("and", (("and", (either, C)), D)))
        self.check_text("(x = 0 and y - 3 < 0 or -x <= 0) or 0 = 0", ("or", (("or", (both, C)), D)))

    def test_what_is_read_again(self):
        picker = Picker(139)
        texts = {}
        count = 0
        while count < 400:
            k = picker.number(1, 3)
            told = some_condition(picker, k)
            if is_condition(k, told):
                count += 1
                text = condition_text(NAMES[:k], told)
                self.assertEqual(read_condition(NAMES[:k], text), told)
                self.assertEqual(texts.setdefault((k, text), told), told)
        self.assertGreater(len(texts), 150)

    def test_refusals(self):
        deep = ("not", ("not", ("not", ("not", A))))
        for bad in ODD_VALUES + [deep, ("and", (A,)), ("and", (A,) * 7), ("eq", p(1, x=1)), ("eq", p(2, x=21)), list(A),
                                 ("and", (("and", (A,) * 4), ("or", (A,) * 3))), ("gt", p(2, x=1)), p(2, x=1)]:
            check_error(self, BadValue, {"name": "condition"}, condition_text, XY, bad)


class ProgramTests(unittest.TestCase):
    def check_text(self, lines, names, *body):
        program = Program(names=names, body=body)
        text = "".join([line + "\n" for line in lines])
        self.assertEqual(program_text(program), text)
        self.assertEqual(content(program), (names, body))
        again = read_program(text)
        self.assertEqual(content(again), (names, body))
        self.assertEqual(program_text(again), text)

    def test_names(self):
        self.check_text(["var x;"], ("x",))
        self.check_text(["var a, b, c;"], ("a", "b", "c"))

    def test_assignments(self):
        for line, rules in [
            ("x := x;", (p(3, x=1), p(3, y=1), p(3, z=1))), ("x := 0;", ((), p(3, y=1), p(3, z=1))),
            ("y := x;", (p(3, x=1), p(3, x=1), p(3, z=1))), ("z := -1/2*z;", (p(3, x=1), p(3, y=1), p(3, z=(-1, 2)))),
            ("x, y := y, x;", (p(3, y=1), p(3, x=1), p(3, z=1))),
            ("x, z := 1, 2;", (p(3, one=1), p(3, y=1), p(3, one=2))),
            ("y, z := x*y + 1, z^2 - 3;", (p(3, x=1), p(3, xy=1, one=1), p(3, z2=1, one=-3))),
            ("x, y, z := 0, 0, 0;", ((), (), ())), ("x := 2*x;", (p(3, x=2), p(3, y=1), p(3, z=1))),
        ]:
            self.check_text(["var x, y, z;", line], ("x", "y", "z"), ("set", rules))
            head = "while 0 = 0 {"
            inner = [] if line == "x := x;" else ["  " + line]
            self.check_text(["var x, y, z;", head] + inner + ["}"], ("x", "y", "z"), ("while", ("eq", ()), rules))
            for i, name in enumerate("xyz"):
                self.check_text(["var x, y, z;", f"repeat {name} {{"] + inner + ["}"], ("x", "y", "z"),
                                ("repeat", i, rules))
        self.check_text(["var b;", "b := b;", "b := 1;"], ("b",), ("set", (p(1, x=1),)), ("set", ONE))

    def test_ifs(self):
        test = ("lt", p(1, x=1))
        head = "if x < 0 {"
        self.check_text(["var x;", head, "}"], ("x",), ("if", test, (), ()))
        self.check_text(["var x;", head, "  x := 1;", "}"], ("x",), ("if", test, (("set", ONE),), ()))
        self.check_text(["var x;", head, "} else {", "  x := 1;", "}"], ("x",), ("if", test, (), (("set", ONE),)))
        self.check_text(["var x;", head, "  x := 1;", "  x := 2*x;", "} else {", "  x := 2*x;", "  x := 1;", "}",
                         "x := 1;"],
                        ("x",), ("if", test, (("set", ONE), ("set", TWO)), (("set", TWO), ("set", ONE))), ("set", ONE))
        inner = ("if", ("not", test), (("repeat", 0, TWO),), (("while", test, (p(1, x=1),)),))
        lines = ["  if not x < 0 {", "    repeat x {", "      x := 2*x;", "    }", "  } else {", "    while x < 0 {",
                 "    }", "  }"]
        self.check_text(["var x;", head] + lines + ["}"], ("x",), ("if", test, (inner,), ()))
        self.check_text(["var x;", head] + lines + ["} else {"] + lines + ["}"], ("x",),
                        ("if", test, (inner,), (inner,)))
        last = ("if", test, (), (("if", test, (), (("if", test, (), (("set", ONE),)),)),))
        self.check_text(["var x;", head, "} else {", "  " + head, "  } else {", "    " + head, "    } else {",
                         "      x := 1;",
                         "    }", "  }", "}"], ("x",), last)

    def test_conditions(self):
        self.check_text(["var x, y;", "while (x = 0 or y - 3 < 0) and -x <= 0 {", "  x, y := y, x;", "}"], XY,
                        ("while", ("and", (("or", (A, B)), C)), (p(2, y=1), p(2, x=1))))

    def test_what_is_read_again(self):
        picker = Picker(140)
        texts = {}
        for _ in range(300):
            program = some_program(picker)
            text = program_text(program)
            again = read_program(text)
            self.assertEqual(content(again), content(program))
            self.assertEqual(program_text(again), text)
            self.assertEqual(texts.setdefault(text, content(program)), content(program))
            # Comments and blanks between the tokens.
            pieces = [token[1] for token in scan(text)[:-1]]
            gaps = (" ", "\n", "\t ", "# { \n")
            changed = "".join([gaps[picker.number(0, 3)] + piece for piece in pieces]) + " # end"
            self.assertEqual(content(read_program(changed)), content(program))
        self.assertGreater(len(texts), 250)

    def test_longest_text(self):
        """Even the greatest programs have a text of at most 30000 characters."""
        names = ("aaaaaaaa", "aaaaaaab", "aaaaaaac")
        long = polynomial(3, [(r(-19, 20), exponents) for exponents in
                              [(3, 3, 3), (3, 3, 2), (3, 2, 3), (2, 3, 3), (3, 2, 2), (2, 3, 2)]])
        rules = (long, long, long)
        self.assertTrue(is_map(rules))
        test = ("not", ("or", (("and", (("not", ("eq", long)), ("not", ("lt", long)))), ("and", (("lt", long),) * 4))))
        self.assertFalse(is_condition(3, test))
        test = ("not", ("or", (("and", (("eq", long), ("le", long))), ("and", (("lt", long),) * 4))))
        self.assertTrue(is_condition(3, test))
        inner = ("if", test, (("if", test, (("if", test, (("while", test, rules),) * 2, ()),) , ()),), ())
        body = (inner, ("while", test, rules), ("while", test, rules), ("if", test, (), ()), ("if", test, (), ()),
                ("if", test, (), ()), ("if", test, (), ()), ("if", test, (), ()))
        program = Program(names=names, body=body)
        text = program_text(program)
        self.assertEqual(len(program.statements()), 12)
        self.assertGreater(len(text), 15000)
        self.assertLessEqual(len(text), 30000)
        self.assertEqual(content(read_program(text)), content(program))


if __name__ == "__main__":
    unittest.main()
