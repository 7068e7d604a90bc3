"""The tokens of texts (points 129 to 131)."""

import unittest

from helpers import Picker, check_call, check_error
from roundknown.errors import TextError
from roundknown.scanning import scan

RESERVED = ("var", "if", "else", "while", "repeat", "and", "or", "not")
SIGNS = (":=", ";", ",", "{", "}", "(", ")", "+", "-", "*", "/", "^", "=", "!=", "<", "<=", ">", ">=")
NO_TOKEN = "no token begins here"
LONG_WORD = "a word has at most 8 characters"
LONG_NUMBER = "a number has at most 6 digits"
DEEP = "nested too deep"


def shapes(text):
    """The kinds and characters of the tokens before the end."""
    return [token[:2] for token in scan(text)[:-1]]


class Tests(unittest.TestCase):
    def check_problem(self, text, line, column, words):
        check_error(self, TextError, {"line": line, "column": column, "words": words}, scan, text)

    def test_each_token(self):
        for word in RESERVED:
            check_call(self, [("reserved", word, 1, 1), ("end", "", 1, 1 + len(word))], scan, word)
        for sign in SIGNS:
            if sign not in "({":
                check_call(self, [("sign", sign, 1, 1), ("end", "", 1, 1 + len(sign))], scan, sign)
        for word in ["a", "z", "x1", "a0b9", "abcdefgh", "a1234567", "vars", "iff", "elsewhe", "repeats", "nota",
                     "or2"]:
            check_call(self, [("name", word, 1, 1), ("end", "", 1, 1 + len(word))], scan, word)
        for number in ["0", "7", "42", "007", "123456", "000000", "999999"]:
            check_call(self, [("number", number, 1, 1), ("end", "", 1, 1 + len(number))], scan, number)
        for character in "abcdefghijklmnopqrstuvwxyz":
            self.assertEqual(shapes(character), [("name", character)])
            self.assertEqual(shapes("q" + character), [("name", "q" + character)])
        for character in "0123456789":
            self.assertEqual(shapes(character), [("number", character)])
            self.assertEqual(shapes("q" + character), [("name", "q" + character)])

    def test_empty_texts(self):
        check_call(self, [("end", "", 1, 1)], scan, "")
        check_call(self, [("end", "", 1, 4)], scan, "   ")
        check_call(self, [("end", "", 2, 1)], scan, "\n")
        check_call(self, [("end", "", 3, 2)], scan, " \n\t\n ")
        check_call(self, [("end", "", 1, 3)], scan, "\t\t")
        check_call(self, [("end", "", 1, 2)], scan, "#")
        check_call(self, [("end", "", 1, 10)], scan, "# nothing")
        check_call(self, [("end", "", 2, 1)], scan, "# nothing\n")
        check_call(self, [("end", "", 2, 4)], scan, "#\n ##")

    def test_as_long_as_possible(self):
        self.assertEqual(shapes("<=<=<"), [("sign", "<="), ("sign", "<="), ("sign", "<")])
        self.assertEqual(shapes("<>=>"), [("sign", "<"), ("sign", ">="), ("sign", ">")])
        self.assertEqual(shapes("=<==="), [("sign", "="), ("sign", "<="), ("sign", "="), ("sign", "=")])
        self.assertEqual(shapes("!==!="), [("sign", "!="), ("sign", "="), ("sign", "!=")])
        self.assertEqual(shapes(":==:="), [("sign", ":="), ("sign", "="), ("sign", ":=")])
        self.assertEqual(shapes("< ="), [("sign", "<"), ("sign", "=")])
        self.assertEqual(shapes(">#\n="), [("sign", ">"), ("sign", "=")])
        self.assertEqual(shapes("x1y2 3z4"), [("name", "x1y2"), ("number", "3"), ("name", "z4")])
        self.assertEqual(shapes("12if34"), [("number", "12"), ("name", "if34")])
        self.assertEqual(shapes("1 2"), [("number", "1"), ("number", "2")])
        self.assertEqual(shapes("ifx if x"), [("name", "ifx"), ("reserved", "if"), ("name", "x")])
        self.assertEqual(shapes("not(x)"), [("reserved", "not"), ("sign", "("), ("name", "x"), ("sign", ")")])

    def test_places(self):
        text = "var x; # \u00e9 \u2028 :\n\tx :=\n\n 2*x ;#end"
        check_call(self, [
            ("reserved", "var", 1, 1), ("name", "x", 1, 5), ("sign", ";", 1, 6), ("name", "x", 2, 2),
            ("sign", ":=", 2, 4), ("number", "2", 4, 2), ("sign", "*", 4, 3), ("name", "x", 4, 4), ("sign", ";", 4, 6),
            ("end", "", 4, 11),
        ], scan, text)
        # Only a newline ends a line, also within a comment.
        check_call(self, [("name", "x", 2, 1), ("end", "", 2, 2)], scan, "# \r \x0b \x0c \x85 \u2029 # \"\nx")
        check_call(self, [("name", "a", 1, 1), ("name", "b", 2, 1), ("end", "", 2, 2)], scan, "a#b\nb")

    def test_no_token(self):
        for bad in ["A", "Z", "_", ".", "%", "&", "|", "!", ":", "[", "]", "'", '"', "\\", "@", "$", "?", "~", "`",
                    "\r",
                    "\x0b", "\x0c", "\x00", "\x1f", "\x7f", "\xa0", "\u2003", "\u00e9", "\u03b1", "\u0661", "\u00b2",
                    "\uff11", "\uff41", "\u00df", "\u2212", "\u00d7", "\u2264", "\U0001d7d9", "\ufeff"]:
            self.check_problem(bad, 1, 1, NO_TOKEN)
            self.check_problem("x" + bad + "x", 1, 2, NO_TOKEN)
            self.check_problem("7" + bad + "7", 1, 2, NO_TOKEN)
            self.check_problem("# " + bad + "\n\n  x := " + bad, 3, 8, NO_TOKEN)
            self.assertEqual(shapes("x #" + bad + bad), [("name", "x")])
        self.check_problem("xY", 1, 2, NO_TOKEN)
        # Signs that begin alike.
        for text, column in [(": =", 1), ("!", 1), ("! =", 1), ("=!", 2), ("::=", 1), (":", 1), ("<:", 2), ("x:", 2),
                             ("!!=", 1), (":#=", 1)]:
            self.check_problem(text, 1, column, NO_TOKEN)

    def test_long_words(self):
        for good, bad in [("a" * 8, "a" * 9), ("abcdefg1", "abcdefg12"), ("repeatif", "repeatifs"),
                          ("z" * 8, "z" * 500)]:
            self.assertEqual(shapes(good), [("name", good)])
            self.check_problem(bad, 1, 1, LONG_WORD)
            self.check_problem("x := 2\n * " + bad, 2, 4, LONG_WORD)
        self.assertEqual(shapes("aaaaaaaa aaaaaaaa"), [("name", "a" * 8)] * 2)

    def test_long_numbers(self):
        for good, bad in [("123456", "1234567"), ("000000", "0000000"), ("000001", "0000001"), ("999999", "9" * 900)]:
            self.assertEqual(shapes(good), [("number", good)])
            self.check_problem(bad, 1, 1, LONG_NUMBER)
            self.check_problem("\n  x/" + bad, 2, 5, LONG_NUMBER)
        self.assertEqual(shapes("123456x123456"), [("number", "123456"), ("name", "x123456")])

    def test_depth(self):
        for opening in ["(", "{", "({", "{("]:
            text = (opening * 20)[:20]
            self.assertEqual(len(scan(text)), 21)
            for more in "({":
                self.check_problem(text + more, 1, 21, DEEP)
                self.check_problem(text + "\n" + more, 2, 1, DEEP)
                self.check_problem(text + "x" + more + more, 1, 22, DEEP)
                for closing in ")}":
                    # A closing one closes the last one, whatever its shape.
                    self.assertEqual(len(scan(text + closing + more)), 23)
                    self.check_problem(text + closing + more + more, 1, 23, DEEP)
                    self.assertEqual(len(scan(text + closing * 20 + text)), 61)
                    self.check_problem(text + closing * 19 + text, 1, 59, DEEP)
                    # It is ignored if none is open.
                    self.assertEqual(len(scan(closing * 30 + text)), 51)
                    self.check_problem(closing * 30 + text + more, 1, 51, DEEP)
                    self.check_problem(text + closing * 25 + text + more, 1, 66, DEEP)
        self.assertEqual(len(scan("()" * 500)), 1001)
        self.assertEqual(len(scan("# ((((((((((((((((((((((((\n" + "(" * 20)), 21)

    def test_first_problem(self):
        deep = "(" * 21
        problems = [("A", NO_TOKEN), ("a" * 9, LONG_WORD), ("1" * 7, LONG_NUMBER)]
        for first, words in problems:
            for second, _ in problems:
                self.check_problem("x " + first + " " + second, 1, 3, words)
            self.check_problem(first + " " + deep, 1, 1, words)
            self.check_problem(deep + " " + first, 1, 21, DEEP)
        # Nothing after the first problem matters, nor does the grammar before it.
        self.check_problem("}} := var 5 5 x = = ; :", 1, 23, NO_TOKEN)

    def test_long_texts(self):
        self.assertEqual(len(scan("x " * 20000)), 20001)
        self.assertEqual(scan("\n" * 40000 + "x")[0], ("name", "x", 40001, 1))

    def test_random_texts(self):
        """Tokens that are joined by blanks and comments are found again, at their places."""
        picker = Picker(130)
        pieces = RESERVED + SIGNS + ("x", "y1", "abcdefgh", "0", "12", "123456")
        gaps = (" ", "\t", "\n", "  ", "#\n", "# a ( 1 \n", "\n\n \n", " # :\n\t")
        for _ in range(200):
            text = ""
            expected = []
            for _ in range(picker.number(0, 12)):
                text += gaps[picker.number(0, len(gaps) - 1)]
                piece = pieces[picker.number(0, len(pieces) - 1)]
                kind = "reserved" if piece in RESERVED else "sign" if piece in SIGNS else "name"
                if piece[0].isdigit():
                    kind = "number"
                expected.append((kind, piece, text.count("\n") + 1, len(text.split("\n")[-1]) + 1))
                text += piece
            text += (gaps + ("# no newline", ""))[picker.number(0, len(gaps) + 1)]
            expected.append(("end", "", text.count("\n") + 1, len(text.split("\n")[-1]) + 1))
            check_call(self, expected, scan, text)


if __name__ == "__main__":
    unittest.main()
