"""Reading programs, polynomials and conditions (points 129 to 137)."""

import re
import unittest
from fractions import Fraction

from grammars import ORDER, SIGNS, advance, can_come, expected_words, grammar_problem, start_of, word_of
from helpers import ODD_VALUES, Picker, check_call, check_error, fraction_value, p
from roundknown.conditions import holds
from roundknown.errors import BadValue, TextError
from roundknown.maps import compose
from roundknown.programs import Program
from roundknown.reading import next_tokens, read_condition, read_polynomial, read_program
from roundknown.scanning import scan

PROGRAMS = [
    "var x;",
    "var a, b, c; a, c := 1/2*a - b^2, -3; b := 0;",
    "var x, y; if x < 0 { y := x; } else { if not (x = 0 or y >= 2*x and 1 = y) { } x := 1; } y := y^0;",
    "var x, y; while x > 0 and not y <= 3 { x := x - 1; y, x := x, y; } repeat y { } repeat x { x := -x*x; }",
    "var n; if ((n = 1)) { while n < 5 { n := n + 1; } } else { } if not n != 0 or (n > 1 and n < 9) { n := 2*3/4; }",
]
# One token of each kind, to put anywhere.
TOKENS = ["x", "7"] + list(ORDER[2:10]) + list(SIGNS)
MANY_NAMES = "a program has at most 3 names"
TWICE = "this name stands already"
UNKNOWN = "this name is unknown"
ZERO = "a denominator is not 0"


def content(program):
    return (program.names, program.body)


def pieces_of(text):
    """The texts of the tokens of a text."""
    return [token[1] for token in scan(text)[:-1]]


class GrammarTests(unittest.TestCase):
    def test_examples(self):
        check_call(self, ['";"', '"+"', '"-"', '"*"', '"/"'], next_tokens, "var x; x := 2")
        check_call(self, ["a name", "a number", '"("', '"-"'], next_tokens, "var x; if not")

    def test_places(self):
        """What can come at places of each kind, written by hand."""
        factor = ["a name", "a number"]
        statements = ["a name", "if", "while", "repeat"]
        behind_name = ['"+"', '"-"', '"*"', '"^"']
        compared = ['"="', '"!="', '"<"', '"<="', '">"', '">="']
        for text, expected in [
            ("", ["var"]), (" # comment", ["var"]), ("var", ["a name"]), ("var x", ['";"', '","']),
            ("var x,", ["a name"]), ("var x, x, x, x, x", ['";"', '","']), ("var x;", statements + ["the end"]),
            ("var x; y", ['":="', '","']), ("var x; y,", ["a name"]), ("var x; y, z, x", ['":="', '","']),
            ("var x; y :=", factor + ['"-"']), ("var x; y := -", factor),
            ("var x; y := - 7", ['";"'] + ['"+"', '"-"', '"*"', '"/"']),
            ("var x; y := 7/", ["a number"]), ("var x; y := 7/8", ['";"', '"+"', '"-"', '"*"']),
            ("var x; y := z", ['";"'] + behind_name), ("var x; y := z^", ["a number"]),
            ("var x; y := z^2", ['";"', '"+"', '"-"', '"*"']), ("var x; y := z*", factor), ("var x; y := z +", factor),
            ("var x; y := z -", factor), ("var x; x, y := z", ['","'] + behind_name),
            ("var x; x, y := z,", factor + ['"-"']), ("var x; x, y := z, z", ['";"'] + behind_name),
            ("var x; x, y, z := 1, 2/3", ['","', '"+"', '"-"', '"*"']),
            ("var x; x := 1;", statements + ["the end"]), ("var x; if", factor + ["not", '"("', '"-"']),
            ("var x; while", factor + ["not", '"("', '"-"']), ("var x; repeat", ["a name"]),
            ("var x; repeat x", ['"{"']),
            ("var x; repeat x {", ["a name", '"}"']), ("var x; while x = 0 { x := 1;", ["a name", '"}"']),
            ("var x; if x = 0 {", statements + ['"}"']), ("var x; if x = 0 { x := 1;", statements + ['"}"']),
            ("var x; if x = 0 { }", ["a name", "if", "else", "while", "repeat", "the end"]),
            ("var x; if x = 0 { if x = 0 { }", ["a name", "if", "else", "while", "repeat", '"}"']),
            ("var x; if x = 0 { } else", ['"{"']), ("var x; if x = 0 { } else { }", statements + ["the end"]),
            ("var x; while x = 0 { }", statements + ["the end"]), ("var x; repeat x { }", statements + ["the end"]),
            ("var x; if x", behind_name + compared), ("var x; if 7", ['"+"', '"-"', '"*"', '"/"'] + compared),
            ("var x; if x <", factor + ['"-"']), ("var x; if x < y", ["and", "or", '"{"'] + behind_name),
            ("var x; if x < 1/2", ["and", "or", '"{"', '"+"', '"-"', '"*"']),
            ("var x; if (", factor + ["not", '"("', '"-"']),
            ("var x; if (x < 1", ["and", "or", '")"', '"+"', '"-"', '"*"', '"/"']),
            ("var x; if (x < 1)", ["and", "or", '"{"']), ("var x; if ((x < 1)", ["and", "or", '")"']),
            ("var x; if x < 1 and", factor + ["not", '"("', '"-"']),
            ("var x; if x < 1 or", factor + ["not", '"("', '"-"']),
            ("var x; while not (", factor + ["not", '"("', '"-"']),
        ]:
            check_call(self, expected, next_tokens, text)

    def test_each_beginning(self):
        """For each beginning of the programs, every token either can come or is reported with what can come."""
        for text in PROGRAMS:
            stacks = start_of("PROGRAM")
            before = ""
            for token in scan(text):
                words = can_come(stacks)
                check_call(self, words, next_tokens, before)
                self.assertIn(word_of(token), words)
                for piece in TOKENS:
                    self.check_token(before, piece, words)
                if "the end" not in words:
                    place = scan(before)[-1][2:]
                    self.check_problem(before, *place, expected_words(words))
                stacks = advance(stacks, word_of(token))
                before += token[1] + " "

    def check_token(self, before, piece, words):
        if word_of(scan(piece)[0]) in words:
            self.assertTrue(next_tokens(before + piece))
            return
        attributes = {"line": 1, "column": len(before) + 1, "words": expected_words(words)}
        check_error(self, TextError, attributes, next_tokens, before + piece)
        check_error(self, TextError, attributes, next_tokens, before + piece + " := ) 5")
        check_error(self, TextError, attributes, read_program, before + piece)

    def check_problem(self, text, line, column, words):
        check_error(self, TextError, {"line": line, "column": column, "words": words}, read_program, text)

    def test_changed_list(self):
        found = next_tokens("var")
        found.append("changed")
        self.assertEqual(next_tokens("var"), ["a name"])

    def test_problems(self):
        self.check_problem("var x; x := x +;", 1, 16, "expected a name or a number")
        self.check_problem("", 1, 1, "expected var")
        self.check_problem("\n # a\n  x", 3, 3, "expected var")
        self.check_problem("var x", 1, 6, 'expected ";" or ","')
        self.check_problem("var x # ;", 1, 10, 'expected ";" or ","')
        self.check_problem("var x\n", 2, 1, 'expected ";" or ","')
        self.check_problem("var if;", 1, 5, "expected a name")
        self.check_problem("var x; x, y := 1;", 1, 17, 'expected ",", "+", "-", "*" or "/"')
        self.check_problem("var x; x := 1, 2;", 1, 14, 'expected ";", "+", "-", "*" or "/"')
        self.check_problem("var x; x := 1\n;\n}", 3, 1, "expected a name, if, while, repeat or the end")
        self.check_problem("var x; if not not x = 0 { }", 1, 15, 'expected a name, a number, "(" or "-"')
        self.check_problem("var x; if x = 0 = 1 { }", 1, 17, 'expected and, or, "{", "+", "-", "*" or "/"')
        self.check_problem("var x; while x = 0 { if x = 0 { } }", 1, 22, 'expected a name or "}"')
        self.check_problem("var x; x := (x);", 1, 13, 'expected a name, a number or "-"')
        self.check_problem("var x; x := 2x;", 1, 14, 'expected ";", "+", "-", "*" or "/"')
        self.check_problem("var x; x := x/2;", 1, 14, 'expected ";", "+", "-", "*" or "^"')
        self.check_problem("var x; x := x^y;", 1, 15, "expected a number")
        self.check_problem("var x; x := x^-1;", 1, 15, "expected a number")
        self.check_problem("var x; x := - -x;", 1, 15, "expected a name or a number")
        self.check_problem("var x; x := x^2^2;", 1, 16, 'expected ";", "+", "-" or "*"')
        self.check_problem("var x; else", 1, 8, "expected a name, if, while, repeat or the end")
        self.check_problem("var x; if x = 0 { } else if x = 1 { }", 1, 26, 'expected "{"')
        self.check_problem("var x; repeat 5 { }", 1, 15, "expected a name")
        self.check_problem("var x; if x { }", 1, 13, 'expected "+", "-", "*", "^", "=", "!=", "<", "<=", ">" or ">="')

    def test_problems_of_tokens_come_first(self):
        for text, column, words in [
            ("x var :", 7, "no token begins here"), ("5 5 5 abcdefghi", 7, "a word has at most 8 characters"),
            ("; 1234567", 3, "a number has at most 6 digits"), ("(" * 21, 21, "nested too deep"),
            ("var y; x := 1/0; A", 18, "no token begins here"),
        ]:
            attributes = {"line": 1, "column": column, "words": words}
            check_error(self, TextError, attributes, read_program, text)
            check_error(self, TextError, attributes, next_tokens, text)
            check_error(self, TextError, attributes, read_polynomial, ("x",), text)
            check_error(self, TextError, attributes, read_condition, ("x",), text)
        # The grammar comes before all problems of the content.
        self.check_problem("var x, x; y := 1/0; ;", 1, 21, "expected a name, if, while, repeat or the end")

    def test_random_tokens(self):
        """Texts with a token more, less or changed have the problem that the slow oracle finds, or none of grammar."""
        picker = Picker(133)
        for _ in range(250):
            pieces = pieces_of(PROGRAMS[picker.number(1, len(PROGRAMS) - 1)])
            for _ in range(picker.number(1, 2)):
                place = picker.number(0, len(pieces) - 1)
                piece = TOKENS[picker.number(0, len(TOKENS) - 1)]
                action = picker.number(0, 2)
                pieces[place:place + (action > 0)] = [] if action == 2 else [piece]
            text = " ".join(pieces)
            problem = grammar_problem(text, "PROGRAM")
            if problem is not None:
                self.check_problem(text, *problem)
                continue
            try:
                read_program(text)
            except TextError as error:
                self.assertFalse(error.words.startswith("expected"), text)

    def test_sums_and_conditions(self):
        for text in ["x", "-x*y + 2/3 - y^2", "x +", "x + (", "x = 0", "", "- - x", "x y", "2/x", "x ;"]:
            problem = grammar_problem(text, "SUM", "END")
            if problem is not None:
                attributes = dict(zip(("line", "column", "words"), problem))
                check_error(self, TextError, attributes, read_polynomial, ("x", "y"), text)
            else:
                read_polynomial(("x", "y"), text)
        for text in ["x = 0", "not (x = 0)", "x", "x = 0 and", "(x = 0", "x = 0)", "", "not", "not not x = 0",
                     "x < y < 0",
                     "(x) = 0", "x = 0 or or x = 0", "x = 0 {", "x = (0)", "((x = 0) and y > 1)"]:
            problem = grammar_problem(text, "CONDITION", "END")
            if problem is not None:
                attributes = dict(zip(("line", "column", "words"), problem))
                check_error(self, TextError, attributes, read_condition, ("x", "y"), text)
            else:
                read_condition(("x", "y"), text)
        attributes = {"line": 1, "column": 2, "words": 'expected "+", "-", "*", "^" or the end'}
        check_error(self, TextError, attributes, read_polynomial, ("x",), "x;")
        attributes = {"line": 1, "column": 6, "words": 'expected and, or, "+", "-", "*", "/" or the end'}
        check_error(self, TextError, attributes, read_condition, ("x",), "x = 0;")


class ProgramTests(unittest.TestCase):
    def check_read(self, text, names, *body):
        program = read_program(text)
        self.assertIs(type(program), Program)
        self.assertEqual(content(program), (names, body))

    def check_problem(self, text, line, column, words):
        check_error(self, TextError, {"line": line, "column": column, "words": words}, read_program, text)

    def test_example(self):
        text = ("var y, x; # two numbers\nx, y := 0, 1;\nrepeat y {\n  x := x + y;\n  y := 1/2*y + x;\n}\n"
                "if x > 2 and not y != 0 { y := 2*x - 4; }")
        self.check_read(
            text, ("x", "y"), ("set", ((), p(2, one=1))),
            ("repeat", 1, (p(2, x=1, y=1), p(2, x=1, y=(3, 2)))),
            ("if", ("and", (("lt", p(2, x=-1, one=2)), ("not", ("not", ("eq", p(2, y=1)))))),
             (("set", (p(2, x=1), p(2, x=2, one=-4))),), ()),
        )

    def test_names(self):
        for text, names in [("var x;", ("x",)), ("var b, a;", ("a", "b")), ("var c, a, b;", ("a", "b", "c")),
                            ("var x1, x, x0;", ("x", "x0", "x1")), ("var ab, b, a;", ("a", "ab", "b")),
                            ("var abcdefgh;", ("abcdefgh",))]:
            self.check_read(text, names)
        # The names are sorted, so the variables are numbered in another order than they were declared.
        self.check_read("var z, y, x; y := z; repeat z { }", ("x", "y", "z"),
                        ("set", (p(3, x=1), p(3, z=1), p(3, z=1))), ("repeat", 2, (p(3, x=1), p(3, y=1), p(3, z=1))))
        self.check_problem("var a, b, c, d;", 1, 14, MANY_NAMES)
        self.check_problem("var a, b,\n c, a;", 2, 5, MANY_NAMES)
        self.check_problem("var a, a;", 1, 8, TWICE)
        self.check_problem("var a, b, a, c;", 1, 11, TWICE)
        self.check_problem("var a, b, b, b, c; q := 1;", 1, 11, TWICE)
        self.check_problem("var a, b, c, d, d; q := 1;", 1, 14, MANY_NAMES)

    def test_assignments(self):
        self.check_read("var x; x := 3;", ("x",), ("set", (p(1, one=3),)))
        self.check_read("var x, y; y := x;", ("x", "y"), ("set", (p(2, x=1), p(2, x=1))))
        self.check_read("var x, y; y, x := x, y;", ("x", "y"), ("set", (p(2, y=1), p(2, x=1))))
        self.check_read("var x, y, z; z, x := 1, 2;", ("x", "y", "z"), ("set", (p(3, one=2), p(3, y=1), p(3, one=1))))
        self.check_read("var x, y, z; z, x, y := x, y, z;", ("x", "y", "z"), ("set", (p(3, y=1), p(3, z=1), p(3, x=1))))
        # Outside of loops each assignment is a statement of its own.
        self.check_read("var x; x := x + 1; x := 2*x;", ("x",), ("set", (p(1, x=1, one=1),)), ("set", (p(1, x=2),)))
        self.check_problem("var x, y; x, x := 1, 2;", 1, 14, TWICE)
        self.check_problem("var x, y; x, y, x := 1, 2, 3;", 1, 17, TWICE)
        self.check_problem("var x, y; x, q := 1, 2;", 1, 14, UNKNOWN)
        self.check_problem("var x, y; q, q := 1, 2;", 1, 11, UNKNOWN)
        self.check_problem("var x, y; x, x, q := 1, 2, 3;", 1, 14, TWICE)
        self.check_problem("var x, y; x, q, x := 1, 2, 3;", 1, 14, UNKNOWN)
        self.check_problem("var x; x :=\n 2*y;", 2, 4, UNKNOWN)
        self.check_problem("var x; x := q; y := 2;", 1, 13, UNKNOWN)
        self.check_problem("var x; x := 1/0;", 1, 15, ZERO)
        self.check_problem("var x; x := 0/000000;", 1, 15, ZERO)
        self.check_problem("var x; x := 1/0 + q;", 1, 15, ZERO)
        self.check_problem("var x; x := q + 1/0;", 1, 13, UNKNOWN)
        self.check_read("var x; x := 0/5;", ("x",), ("set", ((),)))

    def test_statements(self):
        self.check_read("var x; if x = 0 { }", ("x",), ("if", ("eq", p(1, x=1)), (), ()))
        self.check_read("var x; if x = 0 { } else { }", ("x",), ("if", ("eq", p(1, x=1)), (), ()))
        self.check_read("var x; if x = 0 { x := 1; x := 2; } else { x := 3; }", ("x",),
                        ("if", ("eq", p(1, x=1)), (("set", (p(1, one=1),)), ("set", (p(1, one=2),))),
                         (("set", (p(1, one=3),)),)))
        self.check_read("var x; while x < 5 { x := x + 1; }", ("x",),
                        ("while", ("lt", p(1, x=1, one=-5)), (p(1, x=1, one=1),)))
        self.check_read("var x, y; repeat y { }", ("x", "y"), ("repeat", 1, (p(2, x=1), p(2, y=1))))
        self.check_read("var x, y; while x = y { }", ("x", "y"),
                        ("while", ("eq", p(2, x=1, y=-1)), (p(2, x=1), p(2, y=1))))
        self.check_read("var x; if x = 0 { if x = 1 { } else { while x = 2 { } } } repeat x { }", ("x",),
                        ("if", ("eq", p(1, x=1)),
                         (("if", ("eq", p(1, x=1, one=-1)), (),
                           (("while", ("eq", p(1, x=1, one=-2)), (p(1, x=1),)),)),), ()),
                        ("repeat", 0, (p(1, x=1),)))
        self.check_problem("var x; repeat y { }", 1, 15, UNKNOWN)
        self.check_problem("var x; while y = 1/0 { x := q; }", 1, 14, UNKNOWN)
        self.check_problem("var x; if x = 1/0 { x := q; }", 1, 17, ZERO)
        self.check_problem("var x; if x = 1 { x := q; } else { q := x; }", 1, 24, UNKNOWN)

    def test_bodies(self):
        self.check_read("var x, y; repeat x { x := x + y; y := x; }", ("x", "y"),
                        ("repeat", 0, (p(2, x=1, y=1), p(2, x=1, y=1))))
        self.check_read("var x, y; repeat x { x, y := y, x; x, y := y, x; }", ("x", "y"),
                        ("repeat", 0, (p(2, x=1), p(2, y=1))))
        self.check_read("var x, y; repeat x { x := x^2; y := x*y; x := 3; }", ("x", "y"),
                        ("repeat", 0, (p(2, one=3), p(2, x2y=1))))
        first, second, third = (p(2, x=1, y=2), p(2, y=1, one=-1)), (p(2, x=1), p(2, x=(1, 2), y=3)), (p(2, y=-1),
                                                                                                       p(2, y=1))
        text = "var x, y; while x = 0 { x, y := x + 2*y, y - 1; y := 1/2*x + 3*y; x := -y; }"
        self.check_read(text, ("x", "y"), ("while", ("eq", p(2, x=1)), compose(compose(first, second), third)))

    def test_bodies_that_are_no_maps(self):
        # The map of an assignment alone, at its first token.
        for bad in ["21*x", "x^4", "1/21", "x*x*x*x", "1 + x + x^2 + x^3 + y + y^2 + y^3", "999999", "-21",
                    "7/3*7/2 - 20/3*4"]:
            self.check_problem("var x, y; repeat x { x := y; y, x := x, " + bad + "; x := q; }", 1, 30, "map")
            self.check_problem("var x, y; repeat x { x := y;\n y := " + bad + "; }", 2, 2, "map")
            self.check_problem("var x, y; repeat x {\n\n  y := " + bad + "; }", 3, 3, "map")
        # The map of the assignments up to this one.
        self.check_problem("var x; repeat x { x := 5*x; x := 5*x; x := 5*x; x := q; }", 1, 29, "map")
        self.check_problem("var x; repeat x { x := 4*x; x := 5*x; x := 5*x; x := q; }", 1, 39, "map")
        self.check_problem("var x; repeat x { x := x^2; x := x^2; }", 1, 29, "map")
        self.check_problem("var x, y; repeat x { x := x + y + 1; x := x^2; y := x*y + 1; }", 1, 48, "map")
        # Later assignments cannot mend it.
        self.check_problem("var x; repeat x { x := 20*x; x := 20*x; x := 0; }", 1, 30, "map")
        # It is found behind the last token, so a problem within the assignment comes before.
        self.check_problem("var x; repeat x { x := 21*x + 1/0; }", 1, 33, ZERO)
        self.check_problem("var x; repeat x { x := 21*x + q; }", 1, 31, UNKNOWN)
        self.check_problem("var x; repeat x { x := 21*x; q := 1; }", 1, 19, "map")
        self.check_problem("var x; repeat x { x := 21*x; } x := q;", 1, 19, "map")
        # A whole body that cancels is a map.
        self.check_read("var x; repeat x { x := 20*x; x := 1/20*x; x := 21*x - 20*x; }", ("x",),
                        ("repeat", 0, (p(1, x=1),)))

    def test_problems_of_programs(self):
        """The problems of point 88 are reported at the first token of their statement, after all others."""
        many = "var x; " + "x := 1; " * 12
        self.assertEqual(len(read_program(many).body), 12)
        self.check_problem(many + "\nx := 2;", 2, 1, "many")
        self.check_problem(many + "\nx := 2; x := q;", 2, 14, UNKNOWN)
        self.check_problem(many + "\n if x = 0 { }", 2, 2, "many")
        self.check_problem("var x; x := 21; x := 1;", 1, 8, "map")
        self.check_problem("var x; x := 21; x := q;", 1, 22, UNKNOWN)
        self.check_problem("var x; x := 1; x := x^4; x := 21;", 1, 16, "map")
        deep = "if x = 0 { " * 4
        self.check_problem("var x; " + deep + "x := 1; " + "}" * 4, 1, 52, "deep")
        self.check_problem("var x; " + deep + "x := 21; " + "}" * 4, 1, 52, "deep")
        read_program("var x; " + "if x = 0 { " * 4 + "}" * 4)
        self.check_problem("var x; if x = 0 { } else { if x = 0 { if x = 0 { if x = 0 { } else { x := 1; } } } }", 1,
                           70, "deep")
        loops = "repeat x { } while x = 0 { } " * 2
        self.assertEqual(len(read_program("var x; " + loops).loops()), 4)
        self.check_problem("var x; " + loops + "x := 1;\nif x = 0 { repeat x { } }", 2, 12, "loops")
        self.check_problem("var x; " + loops + "x := 1;\nif x = 0 { while 21*x = 0 { } }", 2, 12, "loops")
        # Conditions.
        chain = " and ".join(["x = 0"] * 6)
        read_program("var x; while " + chain + " { }")
        self.check_problem("var x; while " + chain + " and x = 0 { }", 1, 8, "condition")
        self.check_problem("var x; x := 1; if (" + chain + ") or x = 0 { }", 1, 16, "comparisons")
        self.check_problem("var x;\n while not (not (not (not x = 0))) { }", 2, 2, "nested")
        self.check_problem("var x;\n if not (not (not x != 0)) { }", 2, 2, "nested")
        self.check_problem("var x;\n if 21*x = 0 { x := 21; }", 2, 2, "polynomial")
        self.check_problem("var x; if x = 0 { x := 1; } else { if x^4 > 0 { } x := 21; }", 1, 36, "polynomial")
        # A statement comes before those in its blocks, and all in the order of the text.
        self.check_problem("var x; if x = 0 { x := 21; x := 22; } else { x := 23; } x := 24;", 1, 19, "map")
        self.check_problem("var x; if x = 0 { } else { x := 23; } x := 24;", 1, 28, "map")

    def test_blanks_and_comments(self):
        """Blanks and comments between the tokens change nothing but places."""
        picker = Picker(141)
        gaps = [" ", "\n", "\t", "#\n", "# ; := \u00e9 (\n", " \n\n ", "\t# }\n  "]
        for text in PROGRAMS:
            expected = content(read_program(text))
            for _ in range(10):
                between = [gaps[picker.number(0, len(gaps) - 1)] for _ in range(200)]
                pieces = pieces_of(text)
                changed = between[0] + "".join([piece + gap for piece, gap in zip(pieces, between[1:])])
                self.assertEqual(content(read_program(changed)), expected)
                self.assertEqual(content(read_program(changed + "# no newline")), expected)
        # Where tokens stay the same, no blank is needed.
        self.check_read("var x;if x=0{x:=2*x^2-1/3;}else{repeat x{}}", ("x",), *read_program(
            "var x; if x = 0 { x := 2 * x ^ 2 - 1 / 3; } else { repeat x { } }").body)
        # The places of problems move.
        self.check_problem("var x; # q\n\n  x :=\n\tq;", 4, 2, UNKNOWN)

    def test_long_texts(self):
        text = "var x; x := 1;"
        self.check_read(text + " " * (30000 - len(text)), ("x",), ("set", (p(1, one=1),)))
        self.check_read("#" * (30000 - len(text) - 1) + "\n" + text, ("x",), ("set", (p(1, one=1),)))
        self.check_problem("var x;" + "x := x;" * 4284, 1, 91, "many")
        self.check_problem("var x; x := " + "x + " * 4990 + "x;", 1, 8, "map")
        self.check_problem("var x; x := " + "9/7*" * 7000 + "x;", 1, 8, "map")
        self.check_problem("var x; " + "x, " * 4000 + "x := 1" + ", 1" * 4000 + ";", 1, 11, TWICE)
        self.check_read("var x; repeat x { " + "x := x + 1; x := x - 1; " * 1200 + "}", ("x",),
                        ("repeat", 0, (p(1, x=1),)))
        for bad in [text + " " * (30001 - len(text)), "?" * 30001]:
            check_error(self, BadValue, {"name": "text"}, read_program, bad)
            check_error(self, BadValue, {"name": "text"}, next_tokens, bad)
            check_error(self, BadValue, {"name": "text"}, read_polynomial, ("x",), bad)
            check_error(self, BadValue, {"name": "text"}, read_condition, ("x",), bad)
        self.assertEqual(next_tokens("var" + " " * 29997), ["a name"])

    def test_no_texts(self):
        for bad in ODD_VALUES:
            if not isinstance(bad, str):
                check_error(self, BadValue, {"name": "text"}, read_program, bad)
                check_error(self, BadValue, {"name": "text"}, next_tokens, bad)


class PolynomialTests(unittest.TestCase):
    def test_sums(self):
        for text, expected in [
            ("0", ()), ("00", ()), ("5", p(1, one=5)), ("-5", p(1, one=-5)), ("007", p(1, one=7)),
            ("6/4", p(1, one=(3, 2))),
            ("-6/04", p(1, one=(-3, 2))), ("0/7", ()), ("x", p(1, x=1)), ("-x", p(1, x=-1)), ("x^1", p(1, x=1)),
            ("x^0", p(1, one=1)), ("x^00", p(1, one=1)), ("x^3", p(1, x3=1)), ("x^003", p(1, x3=1)),
            ("-x^0", p(1, one=-1)),
            ("x*x", p(1, x2=1)), ("x*x^2", p(1, x3=1)), ("2*x*3", p(1, x=6)), ("x*1/2", p(1, x=(1, 2))),
            ("1/2*2/3*x*3", p(1, x=1)), ("0*x", ()), ("x - x", ()), ("x + x", p(1, x=2)),
            ("1 - x^2 + x", p(1, x2=-1, x=1, one=1)),
            ("-x - x - 1", p(1, x=-2, one=-1)), ("x - 2*x + 3", p(1, x=-1, one=3)), ("100*x - 99*x", p(1, x=1)),
            ("x^0*x^0", p(1, one=1)), ("-1/2*x^2*x", p(1, x3=(-1, 2))), ("21/42", p(1, one=(1, 2))),
            ("x^5 - x^5 + 1", p(1, one=1)),
            ("999999/999999", p(1, one=1)), ("1/3 + 1/6", p(1, one=(1, 2))),
        ]:
            check_call(self, expected, read_polynomial, ("x",), text)
        check_call(self, p(3, x2y=1, yz=-1, z=(1, 2)), read_polynomial, ("x", "y", "z"), "y*x*x + 1/2*z - z*y")
        check_call(self, p(2, y=1), read_polynomial, ("a1", "b"), "b")
        # A minus belongs to its product alone.
        check_call(self, p(2, x=-1, y=1), read_polynomial, ("x", "y"), "-x + y")
        check_call(self, p(2, xy=-1, one=1), read_polynomial, ("x", "y"), "1 - x*y")

    def test_many(self):
        """The value of what is read is what Python makes of the text."""
        picker = Picker(135)
        names = ("x", "y", "z")
        for _ in range(300):
            text = "-" * picker.number(0, 1)
            for _ in range(picker.number(1, 6)):
                for _ in range(picker.number(1, 3)):
                    name = names[picker.number(0, 2)]
                    text += (str(picker.number(0, 3)), f"{picker.number(0, 4)}/{picker.number(1, 2)}", name,
                             f"{name}^{picker.number(0, 2)}")[picker.number(0, 3)] + " * "
                text = text[:-3] + (" + ", " - ")[picker.number(0, 1)]
            text = text[:-3]
            python = re.sub(r"\d+", r"Fraction(\g<0>)", text).replace("^", "**")
            try:
                found = read_polynomial(names, text)
            except TextError as error:
                self.assertEqual((error.line, error.column, error.words), (1, 1, "polynomial"))
                continue
            for _ in range(3):
                numbers = [Fraction(picker.number(-9, 9), picker.number(1, 4)) for _ in range(3)]
                self.assertEqual(fraction_value(found, numbers),
                                 eval(python, {"Fraction": Fraction}, dict(zip(names, numbers))))

    def test_problems(self):
        for text, line, column, words in [
            ("21", 1, 1, "polynomial"), ("  21*x", 1, 3, "polynomial"), ("\n 21\n*\nx", 2, 2, "polynomial"),
            ("# a\n x^4", 2, 2, "polynomial"),
            ("1/21", 1, 1, "polynomial"), ("-x + x^4", 1, 1, "polynomial"),
            ("1 + x + x^2 + x^3 + y + y^2 + y^3", 1, 1, "polynomial"), ("x + q", 1, 5, UNKNOWN),
            ("x^4 + q", 1, 7, UNKNOWN),
            ("x + 1/0", 1, 7, ZERO), ("x^4\n+ 1/00", 2, 5, ZERO), ("q + 1/0", 1, 1, UNKNOWN), ("1/0 + q", 1, 3, ZERO),
            ("", 1, 1, 'expected a name, a number or "-"'), ("x + ", 1, 5, "expected a name or a number"),
            ("x = 0", 1, 3, 'expected "+", "-", "*", "^" or the end'),
            ("(x)", 1, 1, 'expected a name, a number or "-"'),
        ]:
            attributes = {"line": line, "column": column, "words": words}
            check_error(self, TextError, attributes, read_polynomial, ("x", "y"), text)
        check_call(self, p(2, x3=1, y3=1, x=20, y=-20, one=(1, 20), xy=1), read_polynomial, ("x", "y"),
                   "x^3 + y^3 + 20*x - 20*y + 1/20 + x*y")
        check_error(self, TextError, {"words": UNKNOWN}, read_polynomial, ("y",), "x")


class ConditionTests(unittest.TestCase):
    def check_read(self, expected, text):
        check_call(self, expected, read_condition, ("x", "y"), text)

    def test_comparisons(self):
        a = p(2, x=1, y=-1, one=-3)
        b = p(2, x=-1, y=1, one=3)
        for sign, expected in [("=", ("eq", a)), ("<", ("lt", a)), ("<=", ("le", a)), (">", ("lt", b)),
                               (">=", ("le", b)),
                               ("!=", ("not", ("eq", a)))]:
            self.check_read(expected, "x " + sign + " y + 3")
            self.check_read(expected, "x - y" + sign + "3")
            self.check_read(expected, "((x - y" + sign + "3))")
        self.check_read(("eq", ()), "0 = 0")
        self.check_read(("lt", ()), "x < x")
        self.check_read(("lt", p(2, one=1)), "1 > 0*x + 2*1")
        self.check_read(("le", p(2, y=-1)), "y >= 0")
        self.check_read(("le", p(2, y=-1)), "0 <= y")

    def test_joined(self):
        a, b, c, d = ("eq", p(2, x=1)), ("lt", p(2, y=1)), ("le", p(2, x=1)), ("eq", p(2, y=1))
        for text, expected in [
            ("x = 0 and y < 0", ("and", (a, b))), ("x = 0 or y < 0", ("or", (a, b))),
            ("x = 0 and y < 0 and x <= 0", ("and", (a, b, c))), ("x = 0 or y < 0 or x <= 0", ("or", (a, b, c))),
            ("x = 0 and y < 0 or x <= 0", ("or", (("and", (a, b)), c))),
            ("x = 0 or y < 0 and x <= 0", ("or", (a, ("and", (b, c))))),
            ("x = 0 and y < 0 or x <= 0 and y = 0", ("or", (("and", (a, b)), ("and", (c, d))))),
            ("(x = 0 or y < 0) and x <= 0", ("and", (("or", (a, b)), c))),
            ("x = 0 and (y < 0 and x <= 0)", ("and", (a, ("and", (b, c))))),
            ("(x = 0 or y < 0) or x <= 0", ("or", (("or", (a, b)), c))),
            ("(((x = 0)))", a), ("((x = 0) and (y < 0))", ("and", (a, b))),
            ("not x = 0", ("not", a)), ("not x = 0 and y < 0", ("and", (("not", a), b))),
            ("not (x = 0 and y < 0)", ("not", ("and", (a, b)))), ("not (not x = 0)", ("not", ("not", a))),
            ("not x != 0", ("not", ("not", a))), ("not (x = 0) or not y < 0", ("or", (("not", a), ("not", b)))),
        ]:
            self.check_read(expected, text)

    def test_many(self):
        """A condition holds where Python says so."""
        picker = Picker(136)
        for _ in range(200):
            text = self.some_text(picker, 3)
            python = text.replace("!=", "<>").replace("<=", "{").replace(">=", "}").replace("=", "==").replace("<>",
                                                                                                               "!=")
            python = python.replace("{", "<=").replace("}", ">=").replace("^", "**")
            try:
                condition = read_condition(("x", "y"), text)
            except TextError as error:
                self.assertIn(error.words, ("nested", "comparisons", "condition"))
                continue
            for _ in range(5):
                numbers = (picker.rational(3, 2), picker.rational(3, 2))
                state = {"x": Fraction(*numbers[0]), "y": Fraction(*numbers[1])}
                self.assertIs(holds(condition, numbers), bool(eval(python, {}, state)))

    def some_text(self, picker, depth):
        choice = picker.number(0, 5 if depth > 0 else 2)
        if choice <= 2:
            sides = ["xy"[picker.number(0, 1)] + (" + ", " - ", "*")[picker.number(0, 2)] + str(picker.number(0, 3))
                     for _ in range(2)]
            return ("not " if choice == 2 else "") + sides[0] + " " + ("=", "!=", "<", "<=", ">",
                                                                       ">=")[picker.number(0, 5)] \
                + " " + sides[1]
        if choice == 3:
            return ("not (", "(")[picker.number(0, 1)] + self.some_text(picker, depth - 1) + ")"
        word = (" and ", " or ")[choice - 4]
        return word.join(["(" + self.some_text(picker, depth - 1) + ")" if picker.number(0, 1) else
                          self.some_text(picker, 0) for _ in range(picker.number(2, 3))])

    def test_problems(self):
        six = " and ".join(["x = 0"] * 6)
        for text, line, column, words in [
            (six + " and x = 0", 1, 1, "condition"), ("\n (" + six + ") or x = 0", 2, 2, "comparisons"),
            (" or ".join(["x = 0 and y = 0"] * 3) + " or x = 0", 1, 1, "comparisons"),
            ("  not (not (not (not x = 0)))", 1, 3, "nested"), ("# a\nnot (not (not x != 0))", 2, 1, "nested"),
            ("21*x = 0", 1, 1, "polynomial"), ("\n 21\n*\nx\n=\n0", 2, 2, "polynomial"),
            ("x + 20 < -1", 1, 1, "polynomial"), ("x = 0 or x^4 = 0", 1, 1, "polynomial"),
            ("x^4 = 0 and q = 0", 1, 13, UNKNOWN), ("x^4 = 1/0", 1, 9, ZERO), ("q = 1/0", 1, 1, UNKNOWN),
            (" or ".join(["x = 0"] * 7), 1, 1, "condition"),
            ("x = 0 and\n(y = 0", 2, 7, 'expected and, or, ")", "+", "-", "*" or "/"'),
            ("", 1, 1, 'expected a name, a number, not, "(" or "-"'),
            ("x", 1, 2, 'expected "+", "-", "*", "^", "=", "!=", "<", "<=", ">" or ">="'),
            # From the outside to the inside, and from left to right.
            ("21*x = 0 and not (not (not (not x = 0)))", 1, 1, "polynomial"),
            ("not (not (not (not x = 0))) and 21*x = 0", 1, 1, "nested"),
        ]:
            attributes = {"line": line, "column": column, "words": words}
            check_error(self, TextError, attributes, read_condition, ("x", "y"), text)
        self.assertEqual(len(read_condition(("x", "y"), six)[1]), 6)
        self.assertEqual(read_condition(("x", "y"), "not (not (not x = 0))"),
                         ("not", ("not", ("not", ("eq", p(2, x=1))))))


class NameTests(unittest.TestCase):
    def test_names(self):
        for good in [("x",), ("x", "y"), ("a", "b", "c"), ("x", "x0", "xa"), ("abcdefgh",)]:
            k = len(good)
            for i, name in enumerate(good):
                expected = tuple([((1, 1), tuple([int(i == j) for j in range(k)]))])
                check_call(self, expected, read_polynomial, good, name)
                check_call(self, ("eq", expected), read_condition, good, name + " = 0")
        for bad in ODD_VALUES + [("a", "b", "c", "d"), ("b", "a"), ("a", "a"), ("a", "c", "b"), ["a"], "a", ("A",),
                                 ("",),
                                 ("abcdefghi",), ("if",), ("1",), ("a", 1), ("a", None), (("a",),), ("a_",),
                                 ("\u00e9",)]:
            for text in ["1", "1 = 1", "?", None]:
                check_error(self, BadValue, {"name": "names"}, read_polynomial, bad, text)
                check_error(self, BadValue, {"name": "names"}, read_condition, bad, text)

    def test_no_texts(self):
        for bad in ODD_VALUES:
            if not isinstance(bad, str):
                check_error(self, BadValue, {"name": "text"}, read_polynomial, ("x",), bad)
                check_error(self, BadValue, {"name": "text"}, read_condition, ("x",), bad)

    def test_long_texts(self):
        check_call(self, p(1, x=1), read_polynomial, ("x",), " " * 29999 + "x")
        check_call(self, ("eq", p(1, x=1)), read_condition, ("x",), "x = 0" + "\n" * 29995)
        check_error(self, TextError, {"words": "polynomial", "column": 1}, read_polynomial, ("x",), "x+" * 14999 + "x")
        self.assertEqual(read_polynomial(("x",), "x-x+" * 7499 + "x"), p(1, x=1))
        check_call(self, p(1, x=1), read_polynomial, ("x",), "7/3*3/7*" * 3749 + "x")


if __name__ == "__main__":
    unittest.main()
