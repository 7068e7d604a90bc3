"""Workshops and the replay of their journals (points 121 to 127)."""

import unittest

from helpers import ODD_VALUES, Picker, check_error, plain
from roundknown.errors import BadValue, NotTold, RoundError, TextError, TooLarge
from roundknown.futures import forms_of
from roundknown.programs import Program
from roundknown.reading import read_program
from roundknown.runs import run_of
from roundknown.workshop import Workshop, replay
from roundknown.writing import program_text

TEXT = "var n, x; repeat n { x := 2*x; }"
WRITTEN = "var n, x;\nrepeat n {\n  x := 2*x;\n}\n"
# A text of five lines, whose loops have maps that are told.
FIVE = "var x;\nx := 1;\nx := 2;\nwhile x < 9 {\n}\n"
REASON = ("irrational", (0, 1), ((-1, 1), (-1, 1), (1, 1)))


def loops_of(*factors):
    """A text with a loop for each factor."""
    return "var x; " + " ".join([f"repeat x {{ x := {factor}*x; }}" for factor in factors])


def shape(shop):
    """All that can be seen of a workshop, without changing it."""
    return (shop.text(), plain(shop.program()), shop.journal(), shop.worked, shop.used, edits_of(shop), kept_of(shop))


def edits_of(shop):
    """The texts after undoing all edits, and after redoing them; seen at a copy."""
    other = shop.copy()
    back, forth = [], []
    while True:
        text = other.undo()
        if text is None:
            break
        back.append(text)
    while True:
        text = other.redo()
        if text is None:
            return (back, forth)
        forth.append(text)


def kept_of(shop):
    """Which factors from 1 to 9 have kept answers, seen at copies."""
    found = []
    for factor in range(1, 10):
        other = shop.copy()
        other.settle()
        other.edit(0, other.text().count("\n"), loops_of(factor))
        used = other.used
        other.ask(0)
        if other.used > used:
            found.append(factor)
    return found


class Model:
    """A slow workshop: texts in lists, and a list of the factors of the kept answers."""

    def __init__(self, text):
        self.past = [program_text(read_program(text))]
        self.future = []
        self.entries = []

    def edit(self, start, end, text):
        lines = self.past[-1].splitlines(keepends=True)
        if text and text[-1] != "\n":
            text += "\n"
        changed = "".join(lines[:start]) + text + "".join(lines[end:])
        self.past.append(program_text(read_program(changed)))
        self.future = []
        return len(self.past) - 1

    def undo(self):
        if len(self.past) == 1:
            return None
        self.future.insert(0, self.past.pop())
        return self.past[-1]

    def redo(self):
        if not self.future:
            return None
        self.past.append(self.future.pop(0))
        return self.past[-1]

    def settle(self):
        count = len(self.past) - 1
        self.past, self.future = [self.past[-1]], []
        return count


class WorkshopTests(unittest.TestCase):
    def check_refused(self, error, attributes, call, *arguments, shop=None):
        """The call raises the error, and the workshop does not change."""
        before = shape(shop)
        check_error(self, error, attributes, call, *arguments)
        self.assertEqual(shape(shop), before)

    def test_example(self):
        shop = Workshop(TEXT)
        self.assertEqual(shop.text(), WRITTEN)
        forms = shop.ask(0)
        self.assertEqual(shop.edit(2, 3, "x := x + x;"), 1)
        self.assertEqual(shop.ask(0), forms)
        self.assertEqual((shop.worked, shop.used), (1, 1))
        self.assertEqual(shop.edit(4, 4, "x := x + 1;"), 2)
        self.assertEqual(shop.undo(), WRITTEN)
        self.assertEqual(shop.journal(), [("edit", 2, 3, "x := x + x;"), ("edit", 4, 4, "x := x + 1;"), ("undo",)])

    def test_new(self):
        shop = Workshop(TEXT)
        self.assertEqual(shape(shop)[:6], (WRITTEN, plain(read_program(TEXT)), [], 0, 0, ([], [])))
        self.assertEqual(shape(shop)[6], [])
        self.assertIsNone(shop.undo())
        self.assertIsNone(shop.redo())
        self.assertEqual((type(shop.worked), type(shop.used)), (int, int))
        for bad in ODD_VALUES + ["x" * 30001]:
            if not isinstance(bad, str) or len(bad) > 9:
                check_error(self, BadValue, {"name": "text"}, Workshop, bad)
        check_error(self, TextError, {"line": 1, "column": 16, "words": "expected a name or a number"}, Workshop,
                    "var x; x := x +;")
        check_error(self, TextError, {"line": 1, "column": 8, "words": "map"}, Workshop, "var x; x := 21;")

    def test_edits(self):
        for start, end, text, expected in [
            (0, 0, "# comment", FIVE), (0, 1, "var x, y;", "var x, y;\nx := 1;\nx := 2;\nwhile x < 9 {\n}\n"),
            (1, 1, "x := 0;", "var x;\nx := 0;\nx := 1;\nx := 2;\nwhile x - 9 < 0 {\n}\n"),
            (1, 2, "x := 0; x := 5;", "var x;\nx := 0;\nx := 5;\nx := 2;\nwhile x - 9 < 0 {\n}\n"),
            (1, 3, "", "var x;\nwhile x - 9 < 0 {\n}\n"), (1, 2, "", "var x;\nx := 2;\nwhile x - 9 < 0 {\n}\n"),
            (3, 5, "", "var x;\nx := 1;\nx := 2;\n"), (5, 5, "x := 3;", FIVE + "x := 3;\n"),
            (5, 5, "x := 3;\n", FIVE + "x := 3;\n"), (5, 5, "x := 3;\n\n\n", FIVE + "x := 3;\n"),
            (4, 4, "x := x + 1;", "var x;\nx := 1;\nx := 2;\nwhile x - 9 < 0 {\n  x := x + 1;\n}\n"),
            (4, 4, "x := x + 1; x := 2*x; # twice",
             "var x;\nx := 1;\nx := 2;\nwhile x - 9 < 0 {\n  x := 2*x + 2;\n}\n"),
            (0, 5, "var b, a; a := b;", "var a, b;\na := b;\n"), (0, 5, "var a;\n", "var a;\n"), (2, 2, "", FIVE),
            (5, 5, "", FIVE), (3, 4, "while x + 1 < 10 {", FIVE), (1, 5, "", "var x;\n"),
            (2, 3, "if x = 1 { } else { x := 2; }\n",
             "var x;\nx := 1;\nif x - 1 = 0 {\n} else {\n  x := 2;\n}\nwhile x - 9 < 0 {\n}\n"),
        ]:
            expected = expected.replace("x < 9", "x - 9 < 0")
            shop = Workshop(FIVE)
            self.assertEqual(shop.edit(start, end, text), 1)
            self.assertEqual(shop.text(), expected, (start, end, text))
            self.assertEqual(plain(shop.program()), plain(read_program(expected)))
            self.assertEqual(shop.journal(), [("edit", start, end, text)])
            # An edit that leads to the same program is an edit, too.
            self.assertEqual(shop.undo(), FIVE.replace("x < 9", "x - 9 < 0"))
            self.assertEqual(shop.redo(), expected)
            self.assertIsNone(shop.redo())

    def test_lines_without_a_newline(self):
        # The text is followed by a newline, so it does not run into the line behind it.
        shop = Workshop("var x;\nx := 1;\n")
        self.assertEqual(shop.edit(1, 1, "x := # five\n 5;"), 1)
        self.assertEqual(shop.text(), "var x;\nx := 5;\nx := 1;\n")
        self.assertEqual(shop.edit(1, 1, "x := 7; # end"), 2)
        self.assertEqual(shop.text(), "var x;\nx := 7;\nx := 5;\nx := 1;\n")
        self.check_refused(TextError, {"line": 3, "column": 3, "words": 'expected ";", "+", "-", "*" or "^"'},
                           shop.edit, 1, 1, "x := 7 +", shop=shop)

    def test_errors_of_edits(self):
        shop = Workshop(FIVE)
        shop.ask(0)
        shop.edit(1, 1, "x := 0;")
        shop.undo()
        for bad in [-1, 6, True, False, None, "0", (0,), 0.0, 10 ** 50]:
            self.check_refused(BadValue, {"name": "start"}, shop.edit, bad, 5, "", shop=shop)
            self.check_refused(BadValue, {"name": "start"}, shop.edit, bad, None, None, shop=shop)
        for start, bad in [(0, -1), (0, 6), (3, 2), (5, 4), (5, 6), (0, True), (0, False), (0, None), (1, "5"),
                           (0, 5.0)]:
            self.check_refused(BadValue, {"name": "end"}, shop.edit, start, bad, "", shop=shop)
            self.check_refused(BadValue, {"name": "end"}, shop.edit, start, bad, None, shop=shop)
        for bad in ODD_VALUES + ["#" * 30001]:
            if not isinstance(bad, str) or len(bad) > 9:
                self.check_refused(BadValue, {"name": "text"}, shop.edit, 0, 0, bad, shop=shop)
        # The new text counts, with the newline that is added.
        size = len(shop.text())
        fits, too_long = "#" * (30000 - size - 1), "#" * (30000 - size)
        self.check_refused(TooLarge, {"what": "text"}, shop.edit, 0, 0, too_long, shop=shop)
        self.check_refused(TooLarge, {"what": "text"}, shop.edit, 1, 1, ("?" + too_long), shop=shop)
        self.check_refused(TooLarge, {"what": "text"}, shop.edit, 5, 5, fits + "\n\n", shop=shop)
        self.assertEqual(shop.copy().edit(0, 0, fits), 1)
        self.assertEqual(shop.copy().edit(5, 5, fits + "\n"), 1)
        self.assertEqual(shop.copy().edit(0, 5, "var x;" + "\n" * 29994), 1)
        self.check_refused(TextError, {"line": 1, "column": 1, "words": "expected var"}, shop.edit, 0, 5, "", shop=shop)
        self.check_refused(TextError, {"line": 2, "column": 1, "words": "this name is unknown"}, shop.edit, 1, 1,
                           "y := 1;",
                           shop=shop)
        self.check_refused(TextError, {"line": 6, "column": 1, "words": "map"}, shop.edit, 5, 5, "x := 21;", shop=shop)
        self.check_refused(TextError, {"line": 2, "column": 3, "words": "no token begins here"}, shop.edit, 1, 4, "  ?",
                           shop=shop)

    def test_many_edits(self):
        shop = Workshop("var x;")
        for count in range(20):
            self.assertEqual(shop.edit(1, shop.text().count("\n"), f"x := {count};"), count + 1)
        self.check_refused(TooLarge, {"what": "edits"}, shop.edit, 1, 2, "x := 20;", shop=shop)
        # What read_program raises comes before.
        self.check_refused(TextError, {"words": "map"}, shop.edit, 1, 2, "x := 21;", shop=shop)
        self.check_refused(BadValue, {"name": "start"}, shop.edit, 3, 2, "x := 20;", shop=shop)
        self.check_refused(TooLarge, {"what": "text"}, shop.edit, 1, 2, "#" * 30000, shop=shop)
        self.assertEqual(shop.undo(), "var x;\nx := 18;\n")
        self.assertEqual(shop.edit(1, 2, "x := 20;"), 20)
        self.assertIsNone(shop.redo())
        self.check_refused(TooLarge, {"what": "edits"}, shop.edit, 1, 2, "x := 20;", shop=shop)
        self.assertEqual(shop.settle(), 20)
        self.assertEqual(shop.text(), "var x;\nx := 20;\n")
        self.assertEqual(shop.edit(1, 2, "x := 1;"), 1)
        self.assertEqual(len(shop.journal()), 24)

    def test_undo_and_redo(self):
        shop = Workshop("var x;\n")
        texts = [shop.text()]
        for count in range(1, 5):
            shop.edit(1, 1, f"x := {count};")
            texts.append(shop.text())
        self.assertEqual([shop.undo() for _ in range(5)], texts[3::-1] + [None])
        self.assertEqual([shop.redo() for _ in range(5)], texts[1:] + [None])
        self.assertEqual([shop.undo(), shop.undo(), shop.redo(), shop.undo()], [texts[3], texts[2], texts[3], texts[2]])
        # An edit after undo: what was undone is gone, and the others are still there.
        self.assertEqual(shop.edit(1, 1, "x := 9;"), 3)
        self.assertIsNone(shop.redo())
        self.assertEqual(shop.text(), "var x;\nx := 9;\nx := 2;\nx := 1;\n")
        self.assertEqual([shop.undo(), shop.undo(), shop.undo(), shop.undo()], [texts[2], texts[1], texts[0], None])
        self.assertEqual([entry[0] for entry in shop.journal()],
                         ["edit"] * 4 + ["undo"] * 4 + ["redo"] * 4 + ["undo", "undo", "redo", "undo",
                                                                       "edit"] + ["undo"] * 3)

    def test_settle(self):
        shop = Workshop("var x;\n")
        self.assertEqual(shop.settle(), 0)
        shop.edit(1, 1, "x := 1;")
        shop.edit(1, 1, "x := 2;")
        shop.edit(1, 1, "x := 3;")
        shop.undo()
        text = shop.text()
        self.assertEqual(shop.settle(), 2)
        self.assertEqual(shop.text(), text)
        self.assertIsNone(shop.undo())
        self.assertIsNone(shop.redo())
        self.assertEqual(shop.edit(1, 1, "x := 4;"), 1)
        self.assertEqual(shop.undo(), text)
        self.assertEqual(shop.settle(), 0)
        self.assertEqual([entry[0] for entry in shop.journal()],
                         ["settle", "edit", "edit", "edit", "undo", "settle", "edit", "undo", "settle"])

    def test_answers(self):
        shop = Workshop(loops_of(2, 3, 4, 5))
        for count in range(4):
            self.assertEqual(shop.ask(count), forms_of(shop.program().loops()[count][2]))
            self.assertEqual((shop.worked, shop.used), (count + 1, 0))
        for count in range(4):
            shop.ask(count)
            self.assertEqual((shop.worked, shop.used), (4, count + 1))
        self.assertEqual(kept_of(shop), [2, 3, 4, 5])
        # Using an answer does not change which one was worked out first: 2 is forgotten.
        shop.ask(0)
        shop.edit(1, 4, "repeat x { x := 6*x; }")
        shop.ask(0)
        self.assertEqual((shop.worked, shop.used), (5, 5))
        self.assertEqual(kept_of(shop), [3, 4, 5, 6])
        shop.undo()
        shop.ask(0)
        self.assertEqual((shop.worked, shop.used), (6, 5))
        # What is worked out again counts from then on.
        self.assertEqual(kept_of(shop), [2, 4, 5, 6])
        shop.ask(1)
        self.assertEqual(kept_of(shop), [2, 3, 5, 6])
        self.assertEqual((shop.worked, shop.used), (7, 5))
        # Editing, undoing, redoing, settling and running do not change what is kept.
        shop.redo()
        shop.settle()
        shop.run(((1, 1),))
        shop.edit(0, shop.text().count("\n"), "var a, b;")
        self.assertEqual(kept_of(shop), [2, 3, 5, 6])
        self.assertEqual((shop.worked, shop.used), (7, 5))

    def test_equal_maps(self):
        # Loops of other kinds, numbers, names and texts with equal maps.
        shop = Workshop("var x, y; while x < 3 { x := x + y; } repeat y { x := y + x; y := y; }")
        first = shop.ask(0)
        self.assertEqual(shop.ask(1), first)
        shop.edit(0, 7, "var a, b; repeat a { a := 2*b + a; a := a - b; }")
        self.assertEqual(shop.ask(0), first)
        self.assertEqual((shop.worked, shop.used), (1, 2))
        shop.edit(0, 4, "var a, b, c; repeat a { a := a + b; }")
        self.assertEqual(len(shop.ask(0)), 3)
        self.assertEqual((shop.worked, shop.used), (2, 2))

    def test_errors_of_questions(self):
        shop = Workshop("var x, y; repeat x { } while x = y { x, y := x + y, x; } repeat y { y := y^2; }")
        shop.ask(0)
        for bad in [-1, 3, True, False, None, "0", (0,), 0.0]:
            self.check_refused(BadValue, {"name": "loop"}, shop.ask, bad, shop=shop)
        self.check_refused(NotTold, {"reason": REASON}, shop.ask, 1, shop=shop)
        self.check_refused(NotTold, {"reason": ("product", 1, ((1, 1), (0, 2)))}, shop.ask, 2, shop=shop)
        self.assertEqual((shop.worked, shop.used), (1, 0))
        # Nothing is forgotten for an answer that cannot be given.
        full = Workshop(loops_of(2, 3, 4, 5))
        for count in range(4):
            full.ask(count)
        full.edit(1, 4, "repeat x { x := x^2; }")
        self.check_refused(NotTold, {"reason": ("product", 0, ((1, 1), (2,)))}, full.ask, 0, shop=full)
        self.assertEqual(kept_of(full), [2, 3, 4, 5])
        empty = Workshop("var x;")
        self.check_refused(BadValue, {"name": "loop"}, empty.ask, 0, shop=empty)

    def test_too_large_forms(self):
        shop = Workshop("var x, y, z; repeat z { z := y^3; y := x^3; x := x + 1; }")
        check_error(self, TooLarge, {"what": "form"}, forms_of, shop.program().loops()[0][2])
        self.check_refused(TooLarge, {"what": "form"}, shop.ask, 0, shop=shop)

    def test_runs(self):
        shop = Workshop(TEXT)
        state = ((5, 1), (3, 1))
        self.assertEqual(shop.run(state), ("done", ((0, 5),), ((5, 1), (96, 1))))
        self.assertEqual(shop.run(state), run_of(read_program(TEXT), state))
        shop.edit(4, 4, "while x > 0 { }")
        self.assertEqual(shop.run(state), ("never", ((0, 5),), ("body", 1)))
        shop.edit(4, 6, "repeat x { n, x := n + x, n; }")
        self.check_refused(NotTold, {"reason": ("loop", 1) + REASON}, shop.run, state, shop=shop)
        for bad in [((5, 1),), None, ((5, 1), (1, 13)), ((1001, 1), (1, 1)), [(5, 1), (3, 1)]]:
            self.check_refused(BadValue, {"name": "state"}, shop.run, bad, shop=shop)
        shop.undo()
        shop.undo()
        self.assertEqual(shop.run(state), ("done", ((0, 5),), ((5, 1), (96, 1))))
        self.assertEqual(len(shop.journal()), 4)

    def test_programs(self):
        shop = Workshop(TEXT)
        found = shop.program()
        self.assertIs(type(found), Program)
        self.assertEqual(plain(found), plain(read_program(TEXT)))
        # A program that was returned is not used again.
        found.names, found.body = ("q",), ()
        self.assertEqual(plain(shop.program()), plain(read_program(TEXT)))
        self.assertEqual(shop.text(), WRITTEN)

    def test_changed_lists(self):
        shop = Workshop(TEXT)
        shop.edit(4, 4, "x := 1;")
        shop.journal().append(("undo",))
        shop.journal().clear()
        self.assertEqual(shop.journal(), [("edit", 4, 4, "x := 1;")])

    def test_copies(self):
        shop = Workshop(loops_of(2, 3, 4))
        shop.ask(0)
        shop.ask(0)
        shop.edit(1, 1, "x := 1;")
        shop.edit(1, 1, "x := 2;")
        shop.undo()
        before = shape(shop)
        other = shop.copy()
        self.assertIs(type(other), Workshop)
        self.assertIsNot(other, shop)
        self.assertEqual(shape(other), before)
        self.assertEqual(shape(shop), before)
        for act in [lambda one: one.ask(1), lambda one: one.redo(), lambda one: one.undo(), lambda one: one.settle(),
                    lambda one: one.edit(0, 1, "var x, y;"), lambda one: one.ask(0)]:
            other = shop.copy()
            act(other)
            self.assertNotEqual(shape(other), before)
            self.assertEqual(shape(shop), before)
            kept = shop.copy()
            act(shop)
            self.assertEqual(shape(shop), shape(other))
            self.assertEqual(shape(kept), before)
            shop = kept
        # The copy of a copy, after the first workshop went on.
        twice = other.copy().copy()
        self.assertEqual(shape(twice), shape(other))

    def test_random_workshops(self):
        """Workshops do what the slow model does, and their journals lead to equal ones."""
        picker = Picker(126)
        pieces = ["x := 1;", "", "x := x - 1;\n", "repeat y { y := x; }", "if x = 0 {\n}", "while x > 3 {", "}", "# a",
                  "var x, y;",
                  "x, y := y, x; y := 2;", "y := 21;", "?"]
        for _ in range(25):
            text = "var x, y;\nx := 1;\nwhile x > 0 {\n  x := x - 1;\n}\n"
            shop, model = Workshop(text), Model(text)
            for _ in range(45):
                action = picker.number(0, 9)
                before = (shop.text(), shop.journal(), edits_of(shop))
                if action < 5:
                    count = shop.text().count("\n")
                    start = picker.number(0, count)
                    end = min(count, start + picker.number(0, 2))
                    piece = pieces[picker.number(0, len(pieces) - 1)]
                    try:
                        found = shop.edit(start, end, piece)
                    except RoundError as error:
                        self.assertIsInstance(error, (TextError, TooLarge))
                        if isinstance(error, TooLarge):
                            self.assertEqual((error.what, len(model.past)), ("edits", 21))
                        self.assertEqual((shop.text(), shop.journal(), edits_of(shop)), before)
                        continue
                    self.assertEqual(found, model.edit(start, end, piece))
                    model.entries.append(("edit", start, end, piece))
                else:
                    name = ("undo", "redo", "undo", "redo",
                            "settle" if picker.number(0, 5) == 0 else "undo")[action - 5]
                    found = getattr(shop, name)()
                    self.assertEqual(found, getattr(model, name)())
                    if found is not None:
                        model.entries.append((name,))
                self.assertEqual(shop.text(), model.past[-1])
                self.assertEqual(shop.journal(), model.entries)
            self.assertEqual(edits_of(shop), (model.past[-2::-1], model.past[1:] + model.future))
            again = replay(text, shop.journal())
            self.assertEqual(shape(again), shape(shop))


class ReplayTests(unittest.TestCase):
    def test_replay(self):
        shop = Workshop(TEXT)
        shop.ask(0)
        shop.edit(2, 3, "x := 3*x;")
        shop.edit(4, 4, "x := 1;")
        shop.undo()
        shop.settle()
        shop.edit(4, 4, "x := 2;\n")
        shop.undo()
        shop.redo()
        again = replay(TEXT, shop.journal())
        self.assertIs(type(again), Workshop)
        self.assertEqual((again.text(), again.journal(), edits_of(again)),
                         (shop.text(), shop.journal(), edits_of(shop)))
        # Questions are not in the journal.
        self.assertEqual((again.worked, again.used), (0, 0))
        journal = shop.journal()
        again.settle()
        self.assertEqual(shop.journal(), journal)
        self.assertEqual(replay(TEXT, []).journal(), [])

    def test_entries_that_do_nothing(self):
        shop = replay(TEXT, [("undo",), ("redo",), ("edit", 4, 4, "x := 1;"), ("redo",), ("undo",), ("undo",),
                             ("settle",)])
        self.assertEqual(shop.journal(), [("edit", 4, 4, "x := 1;"), ("undo",), ("settle",)])
        self.assertEqual(shop.text(), WRITTEN)

    def test_no_journals(self):
        good = ("edit", 4, 4, "x := 1;")
        entries = [("edit",), good[:3], good + (0,), ("edit", True, 4, ""), ("edit", 4, False, ""),
                   ("edit", 4, 4, None),
                   ("edit", 4, "4", ""), ("edit", None, 4, ""), ("edit", 4, 4, b"x := 1;"), ["edit", 4, 4, ""],
                   list(good),
                   ("undo", 1), ("redo", ()), ("settle", 0), ("Undo",), ("ask", 0), ("run", ()), (), "undo", ["undo"],
                   None,
                   ("undo",) * 2, (("undo",),), 0, ("edit", 4.0, 4, ""), ("Edit", 4, 4, ""), ("", 4, 4, ""),
                   (None, 4, 4, "")]
        for bad in [[entry] for entry in entries] + [[good, entry] for entry in entries] + [
                (good,), good, None, "undo", (), {}, [("undo",)] * 201, True, 0]:
            for text in [TEXT, "?", None]:
                check_error(self, BadValue, {"name": "journal"}, replay, text, bad)

    def test_long_journals(self):
        self.assertEqual(len(replay(TEXT, [("settle",)] * 200).journal()), 200)
        self.assertEqual(replay(TEXT, [("undo",)] * 200).journal(), [])
        check_error(self, BadValue, {"name": "journal"}, replay, TEXT, [("settle",)] * 201)
        # A replayed workshop goes on, so its journal can have more than 200 entries.
        shop = replay(TEXT, [("settle",)] * 200)
        shop.settle()
        self.assertEqual(len(shop.journal()), 201)
        check_error(self, BadValue, {"name": "journal"}, replay, TEXT, shop.journal())

    def test_errors_of_calls(self):
        for bad in [None, 5, "x" * 30001]:
            check_error(self, BadValue, {"name": "text"}, replay, bad, [])
            check_error(self, BadValue, {"name": "text"}, replay, bad, [("edit", -1, 0, "")])
        check_error(self, TextError, {"line": 1, "column": 1, "words": "expected var"}, replay, "",
                    [("edit", -1, 0, "")])
        check_error(self, BadValue, {"name": "start"}, replay, TEXT, [("edit", -1, 0, "")])
        check_error(self, BadValue, {"name": "start"}, replay, TEXT, [("edit", 5, 0, "")])
        check_error(self, BadValue, {"name": "end"}, replay, TEXT, [("undo",), ("edit", 4, 10 ** 30, "?")])
        check_error(self, BadValue, {"name": "text"}, replay, TEXT, [("edit", 4, 4, "#" * 30001)])
        check_error(self, TooLarge, {"what": "text"}, replay, TEXT, [("edit", 4, 4, "#" * 30000)])
        check_error(self, TextError, {"line": 5, "column": 1}, replay, TEXT, [("settle",), ("edit", 4, 4, "?")])
        twenty = [("edit", 4, 4, "x := 1;"), ("edit", 4, 5, "")] * 10
        self.assertEqual(len(replay(TEXT, twenty).journal()), 20)
        check_error(self, TooLarge, {"what": "edits"}, replay, TEXT, twenty + [("edit", 4, 4, "")])
        self.assertEqual(len(replay(TEXT, twenty + [("settle",), ("edit", 4, 4, "")]).journal()), 22)


if __name__ == "__main__":
    unittest.main()
