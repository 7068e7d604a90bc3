"""Reading programs, polynomials and conditions."""

from roundknown.conditions import condition_problem
from roundknown.errors import BadProgram, BadValue, TextError
from roundknown.grammar import follow, words_next
from roundknown.maps import is_rule
from roundknown.polynomials import polynomial
from roundknown.programs import MOST_NAMES, Program, are_names
from roundknown.scanning import scan
from roundknown.sentences import Reader, read_alternatives, read_statements, read_sum

LONGEST_TEXT = 30000


def is_text(x):
    """Return True if x is a text."""
    return isinstance(x, str) and len(x) <= LONGEST_TEXT


def check_named(names, text):
    """Raise the error of the first wrong argument."""
    if not are_names(names):
        raise BadValue("names")
    if not is_text(text):
        raise BadValue("text")


def tokens_of(text, symbols):
    """Return the tokens of a text that follows the grammar from these symbols on."""
    tokens = scan(text)
    follow(tokens, symbols)
    return tokens


def next_tokens(text):
    """Return the list of what can come behind the tokens of the text."""
    if not is_text(text):
        raise BadValue("text")
    return words_next(follow(scan(text)[:-1], ("PROGRAM",)))


def read_names(reader):
    """Return the tuple of the names of a program, sorted."""
    names = []
    # In front of each name stands "var" or a comma, and behind the last one a semicolon.
    while reader.take()[1] != ";":
        kind, name, line, column = reader.take()
        if len(names) == MOST_NAMES:
            raise TextError(line, column, "a program has at most 3 names")
        if name in names:
            raise TextError(line, column, "this name stands already")
        names.append(name)
    return tuple(sorted(names))


def read_program(text):
    """Return the program of the text."""
    if not is_text(text):
        raise BadValue("text")
    reader = Reader(tokens_of(text, ("PROGRAM",)), ())
    names = read_names(reader)
    reader.names = names
    starts = {}
    body = read_statements(reader, ("body",), starts)
    try:
        return Program(names=names, body=body)
    except BadProgram as error:
        token = starts[error.where]
        raise TextError(token[2], token[3], error.why)


def read_polynomial(names, text):
    """Return the polynomial of the text, whose variables have these names."""
    check_named(names, text)
    tokens = tokens_of(text, ("SUM", "the end"))
    p = polynomial(len(names), read_sum(Reader(tokens, names)))
    if not is_rule(len(names), p):
        raise TextError(tokens[0][2], tokens[0][3], "polynomial")
    return p


def read_condition(names, text):
    """Return the condition of the text, whose variables have these names."""
    check_named(names, text)
    tokens = tokens_of(text, ("CONDITION", "the end"))
    condition = read_alternatives(Reader(tokens, names))
    problem = condition_problem(len(names), condition)
    if problem is not None:
        raise TextError(tokens[0][2], tokens[0][3], problem)
    return condition
