"""Programs: names, statements and their places."""

from roundknown.conditions import condition_problem, holds
from roundknown.errors import BadProgram
from roundknown.maps import is_map
from roundknown.rationals import is_whole

RESERVED = ("var", "if", "else", "while", "repeat", "and", "or", "not")
LETTERS = "abcdefghijklmnopqrstuvwxyz"
DIGITS = "0123456789"

# The words that begin statements, with the lengths of the statements.
LENGTHS = {"set": 2, "if": 4, "while": 3, "repeat": 3}
LOOPS = ("while", "repeat")

MOST_NAMES = 3
MOST_STATEMENTS = 12
MOST_LOOPS = 4
GREATEST_DEPTH = 4


def is_name(value):
    """Return True if the value is a string that is a name."""
    if not isinstance(value, str) or not 1 <= len(value) <= 8 or value in RESERVED:
        return False
    return value[0] in LETTERS and all([character in LETTERS + DIGITS for character in value])


def are_names(x):
    """Return True if x is a tuple of names as a program can have it."""
    if not isinstance(x, tuple) or not 1 <= len(x) <= MOST_NAMES or not all([is_name(name) for name in x]):
        return False
    return all([name < other for name, other in zip(x, x[1:])])


def check_names(names):
    """Raise the error of the first problem of the names."""
    if not isinstance(names, tuple) or not all([isinstance(name, str) for name in names]):
        raise BadProgram(("names",), "form")
    if not 1 <= len(names) <= MOST_NAMES:
        raise BadProgram(("names",), "many")
    for index, name in enumerate(names):
        if not is_name(name):
            raise BadProgram(("names", index), "name")
        if index > 0 and not names[index - 1] < name:
            raise BadProgram(("names", index), "order")


def entries(place, block):
    """Return the list of the statements of a block at a place, each a pair of its place and the statement."""
    return [(place + (index,), statement) for index, statement in enumerate(block)]


def both_blocks(place, statement):
    """Return the entries of both blocks of an if."""
    return entries(place + ("then",), statement[2]) + entries(place + ("else",), statement[3])


def chosen_block(place, statement, state):
    """Return the entries of the block of an if that is carried out in the state."""
    if holds(statement[1], state):
        return entries(place + ("then",), statement[2])
    return entries(place + ("else",), statement[3])


def has_statement_form(x):
    """Return True if x has one of the forms of point 85; its maps and its condition are not looked at."""
    if not isinstance(x, tuple) or not x or not isinstance(x[0], str):
        return False
    if x[0] not in LENGTHS or len(x) != LENGTHS[x[0]]:
        return False
    if x[0] == "if":
        return isinstance(x[2], tuple) and isinstance(x[3], tuple)
    return x[0] != "repeat" or is_whole(x[1])


def content_problem(k, statement):
    """Return the word of the first problem of what stands in a statement of the right form, or None."""
    word = statement[0]
    if word in ("if", "while"):
        problem = condition_problem(k, statement[1])
        if problem is not None:
            return problem
    if word == "repeat" and not 0 <= statement[1] < k:
        return "variable"
    if word != "if" and not (is_map(statement[-1]) and len(statement[-1]) == k):
        return "map"
    return None


def check_body(k, body):
    """Raise the error of the first problem of the body."""
    if not isinstance(body, tuple):
        raise BadProgram(("body",), "form")
    waiting = entries(("body",), body)
    statements = 0
    loops = 0
    while waiting:
        place, statement = waiting.pop(0)
        statements += 1
        if statements > MOST_STATEMENTS:
            raise BadProgram(place, "many")
        # Each block adds two items to the places.
        if len(place) > 2 * GREATEST_DEPTH:
            raise BadProgram(place, "deep")
        if not has_statement_form(statement):
            raise BadProgram(place, "form")
        if statement[0] in LOOPS:
            loops += 1
            if loops > MOST_LOOPS:
                raise BadProgram(place, "loops")
        problem = content_problem(k, statement)
        if problem is not None:
            raise BadProgram(place, problem)
        if statement[0] == "if":
            waiting = both_blocks(place, statement) + waiting


class Program:
    """A program of 1 to 3 names and a body."""

    def __init__(self, *, names, body):
        check_names(names)
        check_body(len(names), body)
        self.names = names
        self.body = body

    def statements(self):
        """Return the list of the pairs of place and statement, in the order of the text."""
        found = []
        waiting = entries(("body",), self.body)
        while waiting:
            place, statement = waiting.pop(0)
            found.append((place, statement))
            if statement[0] == "if":
                waiting = both_blocks(place, statement) + waiting
        return found

    def loops(self):
        """Return the list of the loops in the order of their numbers."""
        return [statement for place, statement in self.statements() if statement[0] in LOOPS]


def loop_numbers(program):
    """Return the dict that leads from the places of the loops to their numbers."""
    places = [place for place, statement in program.statements() if statement[0] in LOOPS]
    return {place: number for number, place in enumerate(places)}
