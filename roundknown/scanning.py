"""Scanning: the tokens of a text."""

from roundknown.errors import TextError
from roundknown.programs import DIGITS, LETTERS, RESERVED

BLANKS = " \n\t"
SIGNS = (":=", ";", ",", "{", "}", "(", ")", "+", "-", "*", "/", "^", "=", "!=", "<", "<=", ">", ">=")

LONGEST_WORD = 8
LONGEST_NUMBER = 6
MOST_OPEN = 20


def end_of_run(text, at, characters):
    """Return the first place from at on where none of the characters stands."""
    while at < len(text) and text[at] in characters:
        at += 1
    return at


def end_of_comment(text, at):
    """Return the end of the comment that begins at this place."""
    found = text.find("\n", at)
    return len(text) if found < 0 else found


def token_at(text, at):
    """Return the kind and the characters of the token that begins at this place, or a kind None."""
    if text[at] in LETTERS:
        word = text[at:end_of_run(text, at, LETTERS + DIGITS)]
        return ("reserved" if word in RESERVED else "name", word)
    if text[at] in DIGITS:
        return ("number", text[at:end_of_run(text, at, DIGITS)])
    for length in (2, 1):
        if text[at:at + length] in SIGNS:
            return ("sign", text[at:at + length])
    return (None, "")


def token_problem(kind, characters, depth):
    """Return the words of the problem of a token, or None; depth is the number of what is open before it."""
    if kind is None:
        return "no token begins here"
    if kind == "name" and len(characters) > LONGEST_WORD:
        return "a word has at most 8 characters"
    if kind == "number" and len(characters) > LONGEST_NUMBER:
        return "a number has at most 6 digits"
    if characters in ("(", "{") and depth == MOST_OPEN:
        return "nested too deep"
    return None


def depth_behind(characters, depth):
    """Return the number of what is open behind a token."""
    if characters in ("(", "{"):
        return depth + 1
    return max(depth - 1, 0) if characters in (")", "}") else depth


def scan(text):
    """Return the list of the tokens of the text, each a tuple (kind, characters, line, column)."""
    tokens = []
    at = 0
    line = 1
    begin = 0
    depth = 0
    while at < len(text):
        if text[at] in BLANKS:
            at += 1
            if text[at - 1] == "\n":
                line += 1
                begin = at
        elif text[at] == "#":
            at = end_of_comment(text, at)
        else:
            kind, characters = token_at(text, at)
            problem = token_problem(kind, characters, depth)
            if problem is not None:
                raise TextError(line, at - begin + 1, problem)
            depth = depth_behind(characters, depth)
            tokens.append((kind, characters, line, at - begin + 1))
            at += len(characters)
    tokens.append(("end", "", line, at - begin + 1))
    return tokens
