"""The examples of the document: those of examples.txt, and those that it tells in words."""

import pathlib
import unittest

from helpers import check_call, p
from roundknown import errors
from roundknown.calculus import value_in
from roundknown.conditions import is_condition
from roundknown.forms import add_forms, form_at, next_form, scale_form, sum_form
from roundknown.futures import forms_of
from roundknown.ladders import judge_ladder, ladder_of
from roundknown.layers import matrix_of, parts, spectrum, why_not
from roundknown.matrices import characteristic, eigenvalues
from roundknown.papers import cone_of
from roundknown.programs import Program
from roundknown.reading import read_program
from roundknown.relations import relations, rounds_enough
from roundknown.rounds import rounds_of
from roundknown.tables import table_of
from roundknown.watches import count_rounds, last_round

EXAMPLES = pathlib.Path(__file__).resolve().parent / "examples.txt"


def read_examples():
    """The examples as a list of blocks, each a list of pairs of a call and the rows that follow it."""
    blocks = []
    for block in EXAMPLES.read_text(encoding="utf-8").strip().split("\n\n"):
        steps = []
        for line in block.split("\n"):
            if line.startswith(">>> "):
                steps.append((line[4:], []))
            else:
                steps[-1][1].append(line)
        blocks.append(steps)
    return blocks


class ExampleTests(unittest.TestCase):
    def check_step(self, call, rows, names):
        if rows and rows[0].startswith("raises "):
            with self.assertRaises(getattr(errors, rows[0][7:])):
                exec(call, names)
            return
        try:
            code = compile(call, "example", "eval")
        except SyntaxError:
            self.assertEqual(rows, [], call)
            exec(call, names)
            return
        found = eval(code, names)
        self.assertEqual([] if found is None else [repr(found)], rows, call)

    def test_examples(self):
        count = 0
        for steps in read_examples():
            names = {}
            for call, rows in steps:
                self.check_step(call, rows, names)
                count += 1
        self.assertEqual(count, 133)

    def test_attributes_of_errors(self):
        """What the document says of the errors in its examples."""
        with self.assertRaises(errors.BadValue) as caught:
            exec("from roundknown.rationals import ratio\nratio(1, 0)", {})
        self.assertEqual(caught.exception.name, "d")
        double = ((((2, 1), (1,)),),)
        loop = ("while", ("lt", (((1, 1), (1,)), ((-100, 20), (0,)))), double)
        with self.assertRaises(errors.BadProgram) as caught:
            Program(names=("x",), body=(("set", ((((1, 1), (0,)),),)), loop))
        self.assertEqual((caught.exception.where, caught.exception.why), (("body", 1), "polynomial"))
        with self.assertRaises(errors.TextError) as caught:
            read_program("var x; x := x +;")
        told = caught.exception
        self.assertEqual((told.line, told.column, told.words), (1, 16, "expected a name or a number"))


class WordTests(unittest.TestCase):
    """The examples that the points tell in words."""

    def test_maps(self):
        rules = (p(3, y=2), p(3, x=8), p(3, z=2, xy=1))
        check_call(self, [(0, 1), (2,)], parts, rules)
        check_call(self, (((0, 1), (2, 1)), ((8, 1), (0, 1))), matrix_of, rules, 0)
        check_call(self, ((-16, 1), (0, 1), (1, 1)), characteristic, matrix_of(rules, 0))
        check_call(self, ((((-4, 1), 1), ((4, 1), 1)), True), eigenvalues, matrix_of(rules, 0))
        check_call(self, (((2, 1),),), matrix_of, rules, 1)
        check_call(self, [(((-4, 1), 1), ((4, 1), 1)), (((2, 1), 1),)], spectrum, rules)
        check_call(self, None, why_not, rules)
        reason = ("irrational", (0, 1), ((-1, 1), (-1, 1), (1, 1)))
        check_call(self, reason, why_not, (p(2, x=1, y=1), p(2, x=1)))
        check_call(self, ("product", 0, ((1, 1), (1, 1))), why_not, (p(2, xy=1), p(2, y=1)))

    def test_forms(self):
        doubled = ((), (((2, 1), 0, (1, 1)),))
        count = ((), (((1, 1), 1, (1, 1)),))
        self.assertEqual([form_at(0, doubled, n) for n in range(4)], [(1, 1), (2, 1), (4, 1), (8, 1)])
        self.assertEqual([form_at(0, count, n) for n in range(4)], [(0, 1), (1, 1), (2, 1), (3, 1)])
        # n * n / 2 - n / 2, and 2 * 2 to the n, less n, less 1.
        check_call(self, ((), (((1, 1), 1, (-1, 2)), ((1, 1), 2, (1, 2)))), sum_form, 0, count)
        told = add_forms(0, scale_form(0, doubled, (2, 1)), scale_form(0, count, (-1, 1)))
        told = add_forms(0, told, ((), (((1, 1), 0, (-1, 1)),)))
        check_call(self, told, next_form, 0, (2, 1), (1, 1), count)
        seven = next_form(0, (0, 1), (7, 1), count)
        self.assertEqual([form_at(0, seven, n) for n in range(4)], [(7, 1), (0, 1), (1, 1), (2, 1)])

    def test_futures(self):
        x, y = forms_of((p(2, x=2, y=1), p(2, y=1, one=-1)))
        self.assertEqual(y, ((), (((1, 1), 0, p(2, y=1)), ((1, 1), 1, p(2, one=-1)))))
        self.assertEqual(x, ((), (((1, 1), 0, p(2, y=-1, one=1)), ((1, 1), 1, p(2, one=1)),
                                  ((2, 1), 0, p(2, x=1, y=1, one=-1)))))
        x, y = forms_of((p(2, y=1), ()))
        self.assertEqual([value_in(2, x, n) for n in range(4)], [p(2, x=1), p(2, y=1), (), ()])

    def test_ladder(self):
        form = ((), (((1, 1), 0, (-1, 1)), ((1, 1), 2, (-1, 1)), ((2, 1), 0, (1, 1))))
        self.assertEqual([form_at(0, form, n)[0] for n in range(7)], [0, 0, -1, -2, -1, 6, 27])
        # The level functions 3 n n - 4 n - 1, 12 n + 4 and 24.
        self.assertEqual(ladder_of(form)[:3], [("even", ((0, -1), (2, 1))), ("even", ((0, 1),)), ("even", ((0, 1),))])
        check_call(self, True, judge_ladder, form, table_of(form), ladder_of(form))

    def test_rounds(self):
        some = (((0, False), (4, True)), ((1, False), (5, True), (9, False)))
        check_call(self, None, last_round, some)
        check_call(self, None, count_rounds, some)
        # y is less than 0 from round 11 on.
        rounds = rounds_of((p(2, x=2, y=1), p(2, y=1, one=-1)), ((1, 1), (10, 1)), ("lt", p(2, y=1)))
        self.assertEqual(rounds, (((0, False), (12, True)), ((1, False), (11, True))))

    def test_relations(self):
        rules = (p(2, x=1, one=1), p(2, y=1, x=2, one=1))
        check_call(self, [p(2, x2=1, y=-1)], relations, rules, ((0, 1), (0, 1)), 2)
        check_call(self, 5, rounds_enough, rules, ((0, 1), (0, 1)), 2)

    def test_cone(self):
        down = (p(1, x=1, one=-1),)
        positive = ((("lt", ((0, 1), (-1, 1))),),)
        rows = [("le", ((0, 1), (1, 1), (0, 1))), ("le", ((0, 1), (1, 1), (0, 1))), ("le", ((0, 1), (-1, 1), (0, 1)))]
        check_call(self, rows, cone_of, down, positive, (0, 0), [0, 0])

    def test_conditions(self):
        check_call(self, False, is_condition, 1, ("and", (("lt", p(1, x=1)),)))


if __name__ == "__main__":
    unittest.main()
