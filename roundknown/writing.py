"""Writing programs, polynomials and conditions."""

from roundknown.conditions import SIGNS, is_condition
from roundknown.errors import BadValue
from roundknown.maps import is_rule
from roundknown.polynomials import variable
from roundknown.programs import are_names

COMPARED = {"eq": " = 0", "lt": " < 0", "le": " <= 0"}
INDENT = "  "


def term_text(names, size, exponents):
    """Return the text of a term; size is the absolute value of its coefficient."""
    pieces = []
    for name, exponent in zip(names, exponents):
        if exponent > 0:
            pieces.append(name if exponent == 1 else f"{name}^{exponent}")
    n, d = size
    if size == (1, 1) and pieces:
        return "*".join(pieces)
    number = str(n) if d == 1 else f"{n}/{d}"
    return "*".join([number] + pieces)


def sum_text(names, p):
    """Return the text of what surely is a polynomial."""
    if not p:
        return "0"
    text = ""
    for (n, d), exponents in p:
        if text:
            text = text + (" - " if n < 0 else " + ")
        elif n < 0:
            text = "-"
        text = text + term_text(names, (abs(n), d), exponents)
    return text


def formula_text(names, condition):
    """Return the text of what surely is a condition."""
    word, content = condition
    if word in SIGNS:
        return sum_text(names, content) + COMPARED[word]
    if word == "not":
        if content[0] == "eq":
            return sum_text(names, content[1]) + " != 0"
        return "not " + enclosed(names, content, ("not", "and", "or"))
    loose = ("and", "or") if word == "and" else ("or",)
    between = " " + word + " "
    return between.join([enclosed(names, member, loose) for member in content])


def enclosed(names, condition, words):
    """Return the text of a condition, in parentheses if it has one of the words."""
    text = formula_text(names, condition)
    return f"({text})" if condition[0] in words else text


def changed_by(rules):
    """Return the list of the variables that a map changes."""
    return [i for i, p in enumerate(rules) if p != variable(len(rules), i)]


def assignment_text(names, rules, targets):
    """Return the text of the assignment of these variables."""
    left = ", ".join([names[i] for i in targets])
    right = ", ".join([sum_text(names, rules[i]) for i in targets])
    return f"{left} := {right};"


def statement_lines(names, statement):
    """Return the list of the lines of a statement."""
    word = statement[0]
    if word == "set":
        return [assignment_text(names, statement[1], changed_by(statement[1]) or [0])]
    if word == "if":
        head = "if " + formula_text(names, statement[1])
        lines = block_lines(names, statement[2])
        if statement[3]:
            lines = lines + ["} else {"] + block_lines(names, statement[3])
    else:
        head = word + " " + (names[statement[1]] if word == "repeat" else formula_text(names, statement[1]))
        targets = changed_by(statement[2])
        lines = [INDENT + assignment_text(names, statement[2], targets)] if targets else []
    return [head + " {"] + lines + ["}"]


def block_lines(names, block):
    """Return the list of the lines of a block in braces."""
    return [INDENT + line for statement in block for line in statement_lines(names, statement)]


def program_text(program):
    """Return the text of the program."""
    lines = ["var " + ", ".join(list(program.names)) + ";"]
    for statement in program.body:
        lines.extend(statement_lines(program.names, statement))
    return "".join([line + "\n" for line in lines])


def polynomial_text(names, polynomial):
    """Return the text of the polynomial, whose variables have these names."""
    if not are_names(names):
        raise BadValue("names")
    if not is_rule(len(names), polynomial):
        raise BadValue("polynomial")
    return sum_text(names, polynomial)


def condition_text(names, condition):
    """Return the text of the condition, whose variables have these names."""
    if not are_names(names):
        raise BadValue("names")
    if not is_condition(len(names), condition):
        raise BadValue("condition")
    return formula_text(names, condition)
