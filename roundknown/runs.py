"""Runs: what a program does, told without making the rounds of its loops."""

from roundknown.coefficients import DIGITS_60
from roundknown.conditions import holds
from roundknown.errors import NotTold, TooLarge
from roundknown.futures import solve_map
from roundknown.layers import why_not
from roundknown.maps import DIGITS_400, step
from roundknown.programs import chosen_block, entries, loop_numbers
from roundknown.rationals import are_below
from roundknown.rounds import find_rounds, opposite_of
from roundknown.walking import check_start, is_count
from roundknown.watches import least_from, state_after

# The greatest number of rounds of a repeat that is told.
MOST_REPEATED = 1000000


def check_loops(program):
    """Raise the error of the first loop whose map is not told."""
    for number, loop in enumerate(program.loops()):
        reason = why_not(loop[-1])
        if reason is not None:
            raise NotTold(("loop", number) + reason)


def run_of(program, state):
    """Return what the run of the program from the state comes to."""
    check_start(program, state)
    check_loops(program)
    loops = loop_numbers(program)
    waiting = entries(("body",), program.body)
    told = ()
    numbers = state
    while waiting:
        place, statement = waiting.pop(0)
        if statement[0] == "if":
            waiting = chosen_block(place, statement, numbers) + waiting
        elif statement[0] == "set":
            numbers = step(statement[1], numbers)
            if not are_below(numbers, DIGITS_400):
                return ("stopped", told, place, "numbers")
        else:
            word, count, numbers = run_loop(statement, numbers)
            if count is not None:
                told = told + ((loops[place], count),)
            if word == "never":
                return ("never", told, place)
            if word != "done":
                return ("stopped", told, place, word)
    return ("done", told, numbers)


def run_loop(statement, numbers):
    """Return a tuple of a word, the rounds that are told of the loop or None, and the numbers after them.

    The word is "done", "never" or one of point 92.
    """
    if statement[0] == "while":
        word, count, futures = plan_while(statement, numbers)
    else:
        word, count, futures = plan_repeat(statement, numbers)
    if word != "done" or count == 0:
        return (word, count, numbers)
    try:
        return (word, count, state_after(futures, count))
    except TooLarge as error:
        return (error.what, count, numbers)


def plan_while(statement, numbers):
    """Return a tuple of a word, the rounds of a while or None, and the futures of the variables."""
    word, condition, rules = statement
    if not holds(condition, numbers):
        return ("done", 0, ())
    if not are_below(numbers, DIGITS_60):
        return ("numbers", None, ())
    try:
        futures = solve_map(0, rules, list(numbers))
        rounds = find_rounds(futures, condition)
    except TooLarge as error:
        return (error.what, None, ())
    count = least_from(opposite_of(rounds), 0)
    return ("never" if count is None else "done", count, futures)


def plan_repeat(statement, numbers):
    """Return a tuple of a word, the rounds of a repeat or None, and the futures of the variables."""
    word, variable, rules = statement
    count = numbers[variable][0]
    if not is_count(numbers[variable]) or count > MOST_REPEATED:
        return ("count", None, ())
    if count == 0:
        return ("done", 0, ())
    if not are_below(numbers, DIGITS_60):
        return ("numbers", None, ())
    try:
        return ("done", count, solve_map(0, rules, list(numbers)))
    except TooLarge as error:
        return (error.what, None, ())
