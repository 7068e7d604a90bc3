"""The program as a whole: texts, workshops, runs, endings, forms and relations together."""

import unittest
from fractions import Fraction

from helpers import Picker, p, plain, r
from roundknown import errors
from roundknown.conditions import holds
from roundknown.endings import endless_at_last, round_of
from roundknown.errors import NotTold, RoundError, TextError
from roundknown.explaining import ending_of, guard_of, loop_reports
from roundknown.forms import start_form
from roundknown.futures import forms_of, future_of, is_future
from roundknown.implications import guard_holds, implied
from roundknown.maps import after_rounds
from roundknown.measures import accepts_falls, accepts_kept, falls, kept
from roundknown.papers import accepts_ending
from roundknown.programs import Program
from roundknown.reading import next_tokens, read_condition, read_polynomial, read_program
from roundknown.relations import accepts_relation, relations
from roundknown.rounds import rounds_of
from roundknown.runs import run_of
from roundknown.walking import walk
from roundknown.watches import first_round, state_at
from roundknown.workshop import Workshop, replay
from roundknown.writing import condition_text, polynomial_text, program_text
from test_walking import some_program


def told_by(call, *arguments):
    """What a call returns, or the class and the attributes of its error."""
    try:
        return call(*arguments)
    except RoundError as error:
        return (error.__class__, vars(error))


class TextTests(unittest.TestCase):
    def test_runs_of_what_is_read(self):
        picker = Picker(9)
        words = []
        for _ in range(250):
            program = some_program(picker)
            again = read_program(program_text(program))
            state = tuple([r(picker.number(-3, 6), picker.number(1, 2)) for _ in program.names])
            told = told_by(run_of, program, state)
            self.assertEqual(told_by(run_of, again, state), told)
            self.assertEqual(walk(again, state, 30), walk(program, state, 30))
            self.assertEqual(told_by(loop_reports, again), told_by(loop_reports, program))
            shop = Workshop(program_text(program))
            self.assertEqual(told_by(shop.run, state), told)
            self.assertEqual(plain(shop.program()), plain(program))
            words.append(told[0])
        for word in ("done", "never", "stopped", NotTold):
            self.assertGreater(words.count(word), 5)

    def test_texts_built_token_by_token(self):
        """A program can be written by always taking a token that next_tokens names."""
        picker = Picker(133)
        endings = 0
        for _ in range(60):
            text = ""
            for _ in range(60):
                words = next_tokens(text)
                if "the end" in words and picker.number(0, 2) == 0:
                    break
                words = [word for word in words if word != "the end"]
                # Closing soon, so that the text comes to an end.
                word = words[picker.number(0, len(words) - 1)]
                for wanted in ('";"', '"}"', '")"', '"{"', '":="'):
                    if wanted in words and picker.number(0, 1):
                        word = wanted
                piece = {"a name": "xyz"[picker.number(0, 2)], "a number": "2"}.get(word, word.strip('"'))
                text += piece + " "
            if "the end" in next_tokens(text):
                try:
                    program = read_program(text)
                except TextError as error:
                    self.assertFalse(error.words.startswith("expected"))
                else:
                    self.assertEqual(plain(read_program(program_text(program))), plain(program))
                endings += 1
        self.assertGreater(endings, 20)


class LoopTests(unittest.TestCase):
    def test_guard_ending_and_run_agree(self):
        """For plain loops of random programs, what is told of guards, endings, rounds and runs fits together."""
        picker = Picker(94)
        seen = []
        for _ in range(400):
            program = some_program(picker)
            for number, (word, reason, guard) in enumerate(loop_reports(program)):
                if guard is None:
                    continue
                word, condition, rules = program.loops()[number]
                answer = ending_of(program, number)
                self.assertTrue(accepts_ending(rules, guard, answer))
                state = tuple([picker.rational(5, 2) for _ in rules])
                self.assertEqual(guard_holds(guard, state), holds(condition, state))
                alone = Program(names=program.names, body=(program.loops()[number],))
                run = run_of(alone, state)
                seen.append((answer[0], run[0]))
                self.assertNotEqual(seen[-1], ("always", "never"))
                if run[0] == "done":
                    self.assertFalse(guard_holds(guard, run[2]))
                if run[0] == "never":
                    self.assertEqual(round_of(rules, guard, state), 0)
                if answer[0] == "never" and len(str(answer[1])) < 60 and endless_at_last(rules, guard, state):
                    begin = told_by(round_of, rules, guard, state)
                    if begin in (0, 1, 2, 3):
                        later = after_rounds(rules, state, begin)
                        self.assertTrue(guard_holds(guard, later))
                if kept(rules, guard)[0] == "always" and guard_holds(guard, state):
                    self.assertIn(run[0], ("never", "stopped"))
        for pair in [("always", "done"), ("never", "never"), ("never", "done")]:
            self.assertGreater(seen.count(pair), 5)

    def test_falling_measures(self):
        """A measure that falls bounds the rounds of the run."""
        names = ("x", "y")
        program = read_program("var x, y; while x > 0 and y >= 0 { x, y := x - 1, y + 2; }")
        rules = program.loops()[0][2]
        guard = loop_reports(program)[0][2]
        self.assertEqual(guard, guard_of(2, read_condition(names, "x > 0 and y >= 0")))
        measure = ((0, 1), (1, 1), (0, 1))
        answer = falls(rules, guard, measure)
        self.assertEqual(answer[0], "always")
        self.assertTrue(accepts_falls(rules, guard, measure, answer))
        for number in [(-3, 1), (0, 1), (1, 2), (1, 1), (7, 2), (40, 1)]:
            run = run_of(program, (number, (1, 1)))
            most = max(Fraction(*number).__floor__() + 1, 0)
            self.assertLessEqual(run[1][0][1], most)
        self.assertEqual(ending_of(program, 0)[0], "always")


class WorkedExamples(unittest.TestCase):
    def test_division(self):
        """A loop that counts how often y goes into x, mended in a workshop."""
        shop = Workshop("var q, x, y;\nq := 0;\nwhile x >= y {\n  x := x - y;\n}\n")
        state = ((0, 1), (17, 1), (5, 1))
        self.assertEqual(shop.run(state), ("done", ((0, 3),), ((0, 1), (2, 1), (5, 1))))
        self.assertEqual(shop.edit(3, 4, "x := x - y;\nq := q + 1;"), 1)
        self.assertEqual(shop.text(), "var q, x, y;\nq := 0;\nwhile -x + y <= 0 {\n  q, x := q + 1, x - y;\n}\n")
        self.assertEqual(shop.run(state), ("done", ((0, 3),), ((3, 1), (2, 1), (5, 1))))
        # With y = 0 it never ends, and with y > 0 demanded it always does.
        self.assertEqual(shop.run(((0, 1), (17, 1), (0, 1))), ("never", (), ("body", 1)))
        program = shop.program()
        answer = ending_of(program, 0)
        self.assertEqual(answer[0], "never")
        self.assertEqual(shop.edit(2, 3, "while x >= y and y > 0 {"), 2)
        self.assertEqual(ending_of(shop.program(), 0)[0], "always")
        self.assertEqual(shop.run(((0, 1), (17, 1), (0, 1))), ("done", ((0, 0),), ((0, 1), (17, 1), (0, 1))))
        # q * y + x stays what it was: a relation of the map from this start.
        forms = shop.ask(0)
        rules = shop.program().loops()[0][2]
        self.assertTrue(is_future(rules, forms))
        constant = read_polynomial(("q", "x", "y"), "q*y + x - 17")
        self.assertTrue(accepts_relation(rules, state, constant))
        self.assertIn(read_polynomial(("q", "x", "y"), "y - 5"), relations(rules, state, 1))
        again = replay("var q, x, y;\nq := 0;\nwhile x >= y {\n  x := x - y;\n}\n", shop.journal())
        self.assertEqual(again.text(), shop.text())
        self.assertEqual(again.undo(), shop.undo())

    def test_from_text_to_rounds(self):
        """The loop of the document: x becomes 2 x + y, y falls."""
        text = "var x, y; while y >= 0 { x, y := 2*x + y, y - 1; }"
        program = read_program(text)
        state = ((1, 1), (10, 1))
        rules = program.loops()[0][2]
        self.assertEqual(run_of(program, state), ("done", ((0, 11),), ((20482, 1), (-1, 1))))
        condition = read_condition(("x", "y"), "y < 0")
        self.assertEqual(first_round(rounds_of(rules, state, condition)), 11)
        self.assertEqual(state_at(rules, state, 11), ((20482, 1), (-1, 1)))
        self.assertEqual(ending_of(program, 0)[0], "always")
        guard = loop_reports(program)[0][2]
        self.assertIsNone(round_of(rules, guard, state))
        answer = falls(rules, guard, ((1, 1), (0, 1), (1, 1)))
        self.assertEqual(answer[0], "always")
        # The forms of a workshop, started at the state, are the future of the run.
        forms = Workshop(text).ask(0)
        self.assertEqual(forms, forms_of(rules))
        self.assertEqual(tuple([start_form(state, form) for form in forms]), future_of(rules, state))

    def test_kept_guard(self):
        program = read_program("var a, b; if a > b { a, b := b, a; } while a < b { a, b := 2*a - b, b; }")
        rules = program.loops()[0][2]
        guard = loop_reports(program)[0][2]
        answer = kept(rules, guard)
        self.assertEqual(answer[0], "always")
        self.assertTrue(accepts_kept(rules, guard, answer))
        self.assertEqual(run_of(program, ((7, 1), (3, 1))), ("never", (), ("body", 1)))
        self.assertEqual(run_of(program, ((3, 1), (3, 1))), ("done", ((0, 0),), ((3, 1), (3, 1))))
        self.assertEqual(ending_of(program, 0)[0], "never")
        weaker = guard_of(2, read_condition(("a", "b"), "a <= b or a = 5"))
        self.assertEqual(implied(2, guard, weaker)[0], "always")
        self.assertEqual(implied(2, weaker, guard)[0], "state")

    def test_texts_of_parts(self):
        names = ("a", "b")
        condition = read_condition(names, "not (a < b and a = 1) or 1/2*a >= b^2")
        self.assertEqual(condition_text(names, condition), "not (a - b < 0 and a - 1 = 0) or b^2 - 1/2*a <= 0")
        told = read_polynomial(names, "b*a + 2*a*b - a^0")
        self.assertEqual(told, p(2, xy=3, one=-1))
        self.assertEqual(polynomial_text(names, told), "3*a*b - 1")

    def test_errors(self):
        """All errors are subclasses of RoundError, and none of them of another one."""
        found = [errors.BadValue, errors.BadProgram, errors.NotTold, errors.TooLarge, errors.TextError]
        self.assertTrue(issubclass(RoundError, ValueError))
        for one in found:
            self.assertTrue(issubclass(one, RoundError))
            for other in found:
                self.assertEqual(issubclass(one, other), one is other)
        for call, arguments, error in [
            (read_program, (5,), errors.BadValue), (read_program, ("",), errors.TextError),
            (Workshop, ("var x; x := 21;",), errors.TextError),
            (ending_of, (read_program("var x;"), 0), errors.BadValue),
            (kept, ((p(1, x2=1),), None), errors.NotTold),
        ]:
            with self.assertRaises(RoundError) as caught:
                call(*arguments)
            self.assertIs(type(caught.exception), error)


if __name__ == "__main__":
    unittest.main()
