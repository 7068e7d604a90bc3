"""Walking: carrying out a program round by round."""

from roundknown.conditions import holds
from roundknown.errors import BadValue
from roundknown.maps import DIGITS_400, is_start, step
from roundknown.programs import Program, chosen_block, entries, loop_numbers
from roundknown.rationals import are_below, is_whole

GREATEST_LIMIT = 60


def check_start(program, state):
    """Raise the error of a wrong program or a wrong state."""
    if not isinstance(program, Program):
        raise BadValue("program")
    if not is_start(len(program.names), state):
        raise BadValue("state")


def is_count(number):
    """Return True if the rational is an integer that is not less than 0."""
    return number[1] == 1 and number[0] >= 0


def walk(program, state, limit):
    """Return what carrying out the program comes to, with at most limit rounds of loops."""
    check_start(program, state)
    if not is_whole(limit) or not 0 <= limit <= GREATEST_LIMIT:
        raise BadValue("limit")
    loops = loop_numbers(program)
    waiting = entries(("body",), program.body)
    told = ()
    numbers = state
    rest = limit
    while waiting:
        place, statement = waiting.pop(0)
        if statement[0] == "if":
            waiting = chosen_block(place, statement, numbers) + waiting
        elif statement[0] == "set":
            numbers = step(statement[1], numbers)
            if not are_below(numbers, DIGITS_400):
                return ("numbers", told, place)
        else:
            word, count, numbers = walk_loop(statement, numbers, rest)
            if word != "done":
                return (word, told, place)
            rest -= count
            told = told + ((loops[place], count),)
    return ("done", told, numbers)


def walk_loop(statement, numbers, limit):
    """Return a tuple of the word of point 91 for the loop, its rounds and the numbers after them."""
    word, test, rules = statement
    if word == "repeat" and not is_count(numbers[test]):
        return ("count", 0, numbers)
    wanted = numbers[test][0] if word == "repeat" else None
    count = 0
    while (holds(test, numbers) if wanted is None else count < wanted):
        if count == limit:
            return ("limit", count, numbers)
        numbers = step(rules, numbers)
        count += 1
        if not are_below(numbers, DIGITS_400):
            return ("numbers", count, numbers)
    return ("done", count, numbers)
