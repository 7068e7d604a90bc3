"""The grammar of texts, and what can come behind the beginning of a text.

What is still to come is a list of symbols, the next one last. A symbol is a word of point 133, or the name of a
rule. At most one alternative of a rule can begin with a token, so there is never a choice.
"""

from roundknown.errors import TextError
from roundknown.programs import RESERVED
from roundknown.scanning import SIGNS

# The alternatives of each rule; an empty one stands for nothing, and no other one can be empty.
RULES = {
    "PROGRAM": (("var", "a name", "NAMES", '";"', "STATEMENTS", "the end"),),
    "NAMES": (('","', "a name", "NAMES"), ()),
    "STATEMENTS": (("STATEMENT", "STATEMENTS"), ()),
    "STATEMENT": (
        ("ASSIGNMENT",), ("if", "CONDITION", "BLOCK", "ELSE"), ("while", "CONDITION", "BODY"),
        ("repeat", "a name", "BODY"),
    ),
    "ELSE": (("else", "BLOCK"), ()),
    "BLOCK": (('"{"', "STATEMENTS", '"}"'),),
    "BODY": (('"{"', "ASSIGNMENTS", '"}"'),),
    "ASSIGNMENTS": (("ASSIGNMENT", "ASSIGNMENTS"), ()),
    "ASSIGNMENT": (("a name", "SIDES", '";"'),),
    # Each name brings a sum, so there are as many of both.
    "SIDES": (('","', "a name", "SIDES", '","', "SUM"), ('":="', "SUM")),
    "CONDITION": (("CONJUNCTION", "OR"),),
    "OR": (("or", "CONJUNCTION", "OR"), ()),
    "CONJUNCTION": (("LITERAL", "AND"),),
    "AND": (("and", "LITERAL", "AND"), ()),
    "LITERAL": (("not", "ATOM"), ("ATOM",)),
    "ATOM": (('"("', "CONDITION", '")"'), ("SUM", "COMPARISON", "SUM")),
    "COMPARISON": (('"="',), ('"!="',), ('"<"',), ('"<="',), ('">"',), ('">="',)),
    "SUM": (('"-"', "PRODUCT", "TERMS"), ("PRODUCT", "TERMS")),
    "TERMS": (('"+"', "PRODUCT", "TERMS"), ('"-"', "PRODUCT", "TERMS"), ()),
    "PRODUCT": (("FACTOR", "FACTORS"),),
    "FACTORS": (('"*"', "FACTOR", "FACTORS"), ()),
    "FACTOR": (("a number", "DIVISION"), ("a name", "POWER")),
    "DIVISION": (('"/"', "a number"), ()),
    "POWER": (('"^"', "a number"), ()),
}

# What the kinds of tokens that do not stand for themselves are called.
KINDS = {"name": "a name", "number": "a number", "end": "the end"}


def word_of(token):
    """Return the word that tells the token."""
    kind, characters = token[0], token[1]
    if kind == "sign":
        return quoted(characters)
    return characters if kind == "reserved" else KINDS[kind]


def quoted(characters):
    """Return the word of a sign."""
    return '"' + characters + '"'


def all_words():
    """Return the list of all words in the order of point 133."""
    return ["a name", "a number"] + list(RESERVED) + [quoted(characters) for characters in SIGNS] + ["the end"]


def first_words(symbol):
    """Return the list of the words that can come first in what a symbol stands for."""
    if symbol not in RULES:
        return [symbol]
    return [word for alternative in RULES[symbol] if alternative for word in first_words(alternative[0])]


def make_table():
    """Return the dict that leads from a rule and a word to the alternative that begins with the word."""
    table = {}
    for symbol in RULES:
        for alternative in RULES[symbol]:
            if alternative:
                for word in first_words(alternative[0]):
                    table[(symbol, word)] = alternative
    return table


def can_be_empty(symbol):
    """Return True if the symbol is a rule that can stand for nothing."""
    return symbol in RULES and () in RULES[symbol]


def near_symbols(waiting):
    """Return the list of the next symbols: those that can be empty, and the first one that cannot."""
    at = len(waiting) - 1
    while can_be_empty(waiting[at]):
        at -= 1
    return waiting[at:]


def words_next(waiting):
    """Return the list of the words that can come next, in the order of point 133."""
    found = [word for symbol in near_symbols(waiting) for word in first_words(symbol)]
    return [word for word in all_words() if word in found]


def go_on(table, waiting, word):
    """Take a word that can come next off what is waiting."""
    while True:
        symbol = waiting.pop()
        if symbol == word:
            return
        waiting.extend(table.get((symbol, word), ())[::-1])


def expected(words):
    """Return the words of the problem of a token where only the given words can come."""
    if len(words) == 1:
        return "expected " + words[0]
    return "expected " + ", ".join(words[:-1]) + " or " + words[-1]


def follow(tokens, symbols):
    """Return what is waiting behind the tokens, where the whole text would be the symbols."""
    table = make_table()
    waiting = list(symbols)[::-1]
    for token in tokens:
        word = word_of(token)
        if not any([symbol == word or (symbol, word) in table for symbol in near_symbols(waiting)]):
            raise TextError(token[2], token[3], expected(words_next(waiting)))
        go_on(table, waiting, word)
    return waiting
