"""Reading sums, conditions, assignments and statements off tokens that follow the grammar."""

from roundknown.errors import TextError
from roundknown.maps import is_map, put_together
from roundknown.polynomials import polynomial, variable
from roundknown.rationals import ratio

# For each sign of a comparison, the word, and whether the left side is taken off the right one.
COMPARISONS = {
    "=": ("eq", False), "!=": ("eq", False), "<": ("lt", False), "<=": ("le", False), ">": ("lt", True),
    ">=": ("le", True),
}


class Reader:
    """Tokens that are taken one after another, with the names of the variables."""

    def __init__(self, tokens, names):
        self.tokens = tokens
        self.names = names
        self.at = 0

    def here(self):
        """Return the next token."""
        return self.tokens[self.at]

    def take(self):
        """Return the next token and go on."""
        self.at += 1
        return self.tokens[self.at - 1]

    def shows(self, characters):
        """Return True if the next token has these characters."""
        return self.tokens[self.at][1] == characters

    def skip(self, characters):
        """Go on and return True if the next token has these characters, otherwise return False."""
        found = self.shows(characters)
        if found:
            self.at += 1
        return found


def read_variable(reader):
    """Return the index of the variable whose name is next."""
    kind, name, line, column = reader.take()
    if name not in reader.names:
        raise TextError(line, column, "this name is unknown")
    return reader.names.index(name)


def read_product(reader, sign):
    """Return a product times the sign as a pair (coefficient, exponents)."""
    top = sign
    bottom = 1
    exponents = [0] * len(reader.names)
    while True:
        if reader.here()[0] == "number":
            top = top * int(reader.take()[1])
            if reader.skip("/"):
                kind, digits, line, column = reader.take()
                if int(digits) == 0:
                    raise TextError(line, column, "a denominator is not 0")
                bottom = bottom * int(digits)
        else:
            i = read_variable(reader)
            exponents[i] += int(reader.take()[1]) if reader.skip("^") else 1
        if not reader.skip("*"):
            # Reduced only once, because a product can be very long.
            return (ratio(top, bottom), tuple(exponents))


def read_sum(reader):
    """Return a sum as a list of pairs (coefficient, exponents)."""
    rows = []
    sign = -1 if reader.skip("-") else 1
    while True:
        rows.append(read_product(reader, sign))
        if reader.skip("+"):
            sign = 1
        elif reader.skip("-"):
            sign = -1
        else:
            return rows


def difference(k, rows, others):
    """Return the polynomial of the rows less the others."""
    return polynomial(k, rows + [((-n, d), exponents) for (n, d), exponents in others])


def read_comparison(reader):
    """Return the condition of a comparison."""
    k = len(reader.names)
    left = read_sum(reader)
    sign = reader.take()[1]
    right = read_sum(reader)
    word, turned = COMPARISONS[sign]
    condition = (word, difference(k, right, left) if turned else difference(k, left, right))
    return ("not", condition) if sign == "!=" else condition


def read_atom(reader):
    """Return the condition in parentheses or of a comparison."""
    if not reader.skip("("):
        return read_comparison(reader)
    condition = read_alternatives(reader)
    reader.take()
    return condition


def read_literal(reader):
    """Return a condition that may have "not" in front."""
    return ("not", read_atom(reader)) if reader.skip("not") else read_atom(reader)


def read_conjunction(reader):
    """Return a condition of literals that are joined by "and"."""
    members = [read_literal(reader)]
    while reader.skip("and"):
        members.append(read_literal(reader))
    return ("and", tuple(members)) if len(members) > 1 else members[0]


def read_alternatives(reader):
    """Return a whole condition: conjunctions that are joined by "or"."""
    members = [read_conjunction(reader)]
    while reader.skip("or"):
        members.append(read_conjunction(reader))
    return ("or", tuple(members)) if len(members) > 1 else members[0]


def same_map(k):
    """Return the map of k variables that leaves all of them as they are."""
    return tuple([variable(k, i) for i in range(k)])


def read_targets(reader):
    """Return the list of the variables on the left of an assignment."""
    targets = []
    while True:
        token = reader.here()
        i = read_variable(reader)
        if i in targets:
            raise TextError(token[2], token[3], "this name stands already")
        targets.append(i)
        if not reader.skip(","):
            return targets


def read_assignment(reader):
    """Return the tuple of polynomials of an assignment, which need not be a map."""
    k = len(reader.names)
    rules = list(same_map(k))
    for i in read_targets(reader):
        # In front of each sum stands ":=" or a comma.
        reader.take()
        rules[i] = polynomial(k, read_sum(reader))
    reader.take()
    return tuple(rules)


def read_body(reader):
    """Return the map of the body of a loop."""
    rules = same_map(len(reader.names))
    reader.take()
    while not reader.shows("}"):
        token = reader.here()
        assigned = read_assignment(reader)
        if not is_map(assigned):
            raise TextError(token[2], token[3], "map")
        rules = put_together(rules, assigned)
        if not is_map(rules):
            raise TextError(token[2], token[3], "map")
    reader.take()
    return rules


def read_block(reader, place, starts):
    """Return the block of an if at a place, in braces."""
    reader.take()
    block = read_statements(reader, place, starts)
    reader.take()
    return block


def read_statement(reader, place, starts):
    """Return the statement at a place."""
    if reader.skip("if"):
        test = read_alternatives(reader)
        first = read_block(reader, place + ("then",), starts)
        second = read_block(reader, place + ("else",), starts) if reader.skip("else") else ()
        return ("if", test, first, second)
    if reader.skip("while"):
        test = read_alternatives(reader)
        return ("while", test, read_body(reader))
    if reader.skip("repeat"):
        i = read_variable(reader)
        return ("repeat", i, read_body(reader))
    return ("set", read_assignment(reader))


def read_statements(reader, place, starts):
    """Return the statements of the block at a place, and note their first tokens in the dict starts."""
    found = []
    while not reader.shows("}") and not reader.here()[0] == "end":
        where = place + (len(found),)
        starts[where] = reader.here()
        found.append(read_statement(reader, where, starts))
    return tuple(found)
