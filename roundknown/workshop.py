"""Workshops: programs that are changed line by line, with the answers about their loops."""

from roundknown.errors import BadValue, TooLarge
from roundknown.futures import forms_of
from roundknown.programs import Program
from roundknown.rationals import is_whole
from roundknown.reading import LONGEST_TEXT, is_text, read_program
from roundknown.runs import run_of
from roundknown.writing import program_text

MOST_EDITS = 20
MOST_ANSWERS = 4
LONGEST_JOURNAL = 200


def check_edit(count, start, end, text):
    """Raise the error of the first wrong argument of an edit of a text with count lines."""
    if not is_whole(start) or not 0 <= start <= count:
        raise BadValue("start")
    if not is_whole(end) or not start <= end <= count:
        raise BadValue("end")
    if not is_text(text):
        raise BadValue("text")


def edited(lines, start, end, text):
    """Return the text with another text in place of the lines from start to end."""
    if text and not text.endswith("\n"):
        text = text + "\n"
    before = "".join([line + "\n" for line in lines[:start]])
    return before + text + "".join([line + "\n" for line in lines[end:]])


class Workshop:
    """A program that is changed by edits, with answers that are kept."""

    def __init__(self, text):
        # The first program, and the ones to which the edits in force and those behind them lead.
        self.stages = [read_program(text)]
        self.in_force = 0
        # Pairs of a map and its forms; the one that was worked out first stands first.
        self.answers = []
        self.entries = []
        self.worked_count = 0
        self.used_count = 0

    @property
    def worked(self):
        """The number of calls of ask that worked out an answer."""
        return self.worked_count

    @property
    def used(self):
        """The number of calls of ask that used an answer that was kept."""
        return self.used_count

    def text(self):
        """Return the present text."""
        return program_text(self.stages[self.in_force])

    def program(self):
        """Return the present program."""
        # A new object, because its attributes could be changed.
        present = self.stages[self.in_force]
        return Program(names=present.names, body=present.body)

    def ask(self, loop):
        """Return the forms of the map of the loop with this number."""
        loops = self.stages[self.in_force].loops()
        if not is_whole(loop) or not 0 <= loop < len(loops):
            raise BadValue("loop")
        rules = loops[loop][2]
        for known, forms in self.answers:
            if known == rules:
                self.used_count += 1
                return forms
        found = forms_of(rules)
        self.answers = (self.answers + [(rules, found)])[-MOST_ANSWERS:]
        self.worked_count += 1
        return found

    def run(self, state):
        """Return what the run of the present program from the state comes to."""
        return run_of(self.stages[self.in_force], state)

    def edit(self, start, end, text):
        """Replace the lines from start to end by the text, and return the number of edits in force."""
        lines = self.text().split("\n")[:-1]
        check_edit(len(lines), start, end, text)
        changed = edited(lines, start, end, text)
        if len(changed) > LONGEST_TEXT:
            raise TooLarge("text")
        found = read_program(changed)
        if self.in_force == MOST_EDITS:
            raise TooLarge("edits")
        self.in_force += 1
        self.stages = self.stages[:self.in_force] + [found]
        self.entries.append(("edit", start, end, text))
        return self.in_force

    def undo(self):
        """Undo the last edit in force, and return the present text, or None if there is no such edit."""
        if self.in_force == 0:
            return None
        self.in_force -= 1
        self.entries.append(("undo",))
        return self.text()

    def redo(self):
        """Redo the first edit that was undone, and return the present text, or None if there is no such edit."""
        if self.in_force == len(self.stages) - 1:
            return None
        self.in_force += 1
        self.entries.append(("redo",))
        return self.text()

    def settle(self):
        """Make the present program the first one, and return the number of edits that were in force."""
        count = self.in_force
        self.stages = [self.stages[count]]
        self.in_force = 0
        self.entries.append(("settle",))
        return count

    def journal(self):
        """Return the list of the entries of the journal."""
        return list(self.entries)

    def copy(self):
        """Return a new workshop that equals this one."""
        other = Workshop(self.text())
        other.stages = list(self.stages)
        other.in_force = self.in_force
        other.answers = list(self.answers)
        other.entries = list(self.entries)
        other.worked_count = self.worked_count
        other.used_count = self.used_count
        return other


def is_entry(x):
    """Return True if x has one of the forms of an entry of a journal."""
    if x in (("undo",), ("redo",), ("settle",)):
        return True
    if not isinstance(x, tuple) or len(x) != 4 or x[0] != "edit":
        return False
    return is_whole(x[1]) and is_whole(x[2]) and isinstance(x[3], str)


def replay(text, journal):
    """Return a new workshop with the text, after the calls of the journal."""
    if not isinstance(journal, list) or len(journal) > LONGEST_JOURNAL or not all([is_entry(x) for x in journal]):
        raise BadValue("journal")
    shop = Workshop(text)
    for entry in journal:
        if entry[0] == "edit":
            shop.edit(entry[1], entry[2], entry[3])
        elif entry[0] == "undo":
            shop.undo()
        elif entry[0] == "redo":
            shop.redo()
        else:
            shop.settle()
    return shop
