"""The grammar of texts as the document writes it, and a slow oracle that follows all ways through it at once."""

import re

from roundknown.scanning import scan

# An assignment has as many sums as names: written out for up to 5 of them.
SIDES = " | ".join(
    'NAME ' + '"," NAME ' * many + '":=" SUM ' + '"," SUM ' * many + '";"' for many in range(5)
)
GRAMMAR = """
PROGRAM     = "var" NAME { "," NAME } ";" { STATEMENT } END
STATEMENT   = ASSIGNMENT | "if" CONDITION BLOCK [ "else" BLOCK ] | "while" CONDITION BODY | "repeat" NAME BODY
BLOCK       = "{" { STATEMENT } "}"
BODY        = "{" { ASSIGNMENT } "}"
ASSIGNMENT  = """ + SIDES + """
CONDITION   = CONJUNCTION { "or" CONJUNCTION }
CONJUNCTION = LITERAL { "and" LITERAL }
LITERAL     = [ "not" ] ATOM
ATOM        = "(" CONDITION ")" | SUM COMPARISON SUM
COMPARISON  = "=" | "!=" | "<" | "<=" | ">" | ">="
SUM         = [ "-" ] PRODUCT { ( "+" | "-" ) PRODUCT }
PRODUCT     = FACTOR { "*" FACTOR }
FACTOR      = NUMBER [ "/" NUMBER ] | NAME [ "^" NUMBER ]
"""
RESERVED = ("var", "if", "else", "while", "repeat", "and", "or", "not")
SIGNS = (":=", ";", ",", "{", "}", "(", ")", "+", "-", "*", "/", "^", "=", "!=", "<", "<=", ">", ">=")
ORDER = ("a name", "a number") + RESERVED + tuple([f'"{sign}"' for sign in SIGNS]) + ("the end",)
LEAVES = {"NAME": "a name", "NUMBER": "a number", "END": "the end"}


def parse_choice(words):
    """Take alternatives off the words of a rule: a tuple of tuples of items."""
    choices = [()]
    while words and words[0] not in ("}", "]", ")"):
        word = words.pop(0)
        if word == "|":
            choices.append(())
        elif word in ("{", "[", "("):
            inner = parse_choice(words)
            words.pop(0)
            choices[-1] += (({"{": "many", "[": "maybe", "(": "once"}[word], inner),)
        elif word.startswith('"'):
            choices[-1] += (word[1:-1] if word[1:-1] in RESERVED else word,)
        else:
            choices[-1] += (LEAVES.get(word, ("rule", word)),)
    return tuple(choices)


def read_rules():
    rules = {}
    for line in GRAMMAR.strip().split("\n"):
        name, body = line.split("=", 1)
        rules[name.strip()] = parse_choice(re.findall(r'"[^"]+"|\S+', body))
    return rules


RULES = read_rules()


def heads(stack):
    """All pairs of a word that can come next and what would be waiting behind it; a stack is (item, rest)."""
    found = set()
    waiting = [stack]
    seen = set()
    while waiting:
        now = waiting.pop()
        if now in seen or now is None:
            continue
        seen.add(now)
        item, rest = now
        if isinstance(item, str):
            found.add((item, rest))
            continue
        kind, content = item
        if kind == "rule":
            kind, content = "once", RULES[content]
        if kind in ("many", "maybe"):
            waiting.append(rest)
        behind = (item, rest) if kind == "many" else rest
        for choice in content:
            chain = behind
            for part in reversed(choice):
                chain = (part, chain)
            waiting.append(chain)
    return found


def start_of(*symbols):
    """The stacks at the beginning of a text of these symbols."""
    chain = None
    for symbol in reversed(symbols):
        chain = (LEAVES.get(symbol, ("rule", symbol)), chain)
    return {chain}


def word_of(token):
    kind, characters = token[:2]
    return {"name": "a name", "number": "a number", "end": "the end", "sign": f'"{characters}"'}.get(kind, characters)


def can_come(stacks):
    """The words that can come next, in their order."""
    found = {word for stack in stacks for word, rest in heads(stack)}
    return [word for word in ORDER if word in found]


def advance(stacks, word):
    return {rest for stack in stacks for other, rest in heads(stack) if other == word}


def expected_words(words):
    """The words of the problem of point 133."""
    if len(words) == 1:
        return f"expected {words[0]}"
    return f"expected {', '.join(words[:-1])} or {words[-1]}"


def grammar_problem(text, *symbols):
    """The (line, column, words) of the first token that cannot come, or None."""
    stacks = start_of(*symbols)
    for token in scan(text):
        after = advance(stacks, word_of(token))
        if not after:
            return (token[2], token[3], expected_words(can_come(stacks)))
        stacks = after
    return None
