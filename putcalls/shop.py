"""The calls of one line, answered in order."""

from putcalls.program import Program
from putcalls.build import add_function, add_block, add_num, add_two, add_say, add_call
from putcalls.build import add_jump, add_fork, add_give
from putcalls.asked import tell_shows, tell_run, tell_counts, tell_putin, tell_choose, tell_runchosen, tell_whole

FUNCTION = 0
BLOCK = 1
NUM = 2
TWO = 3
SAY = 4
CALL = 5
JUMP = 6
FORK = 7
GIVE = 8
SHOWS = 9
RUN = 10
COUNTS = 11
PUTIN = 12
CHOOSE = 13
RUNCHOSEN = 14

# By a call's number: how many whole numbers it has, and whether a list stands behind them.
WHOLE_NUMBERS = (1, 0, 2, 4, 1, 2, 1, 4, 1, 0, 2, 2, 3, 3, 3, 3)
HAS_LIST = (
    False, True, False, False, False, True, True, True,
    False, False, True, True, False, True, True, True,
)


def split_calls(calls):
    """Each call as a tuple: its number, its whole numbers, its list (empty if it has none)."""
    parts = []
    at = 0
    while at < len(calls):
        kind = calls[at]
        behind = at + 1 + WHOLE_NUMBERS[kind]
        numbers = calls[at + 1:behind]
        listed = []
        if HAS_LIST[kind]:
            first = behind + 1
            behind = first + calls[behind]
            listed = calls[first:behind]
        parts.append((kind, numbers, listed))
        at = behind
    return parts


def build(program, kind, numbers, listed):
    """The one number that a call answers by which the program is told."""
    if kind == FUNCTION:
        return add_function(program, numbers[0])
    if kind == BLOCK:
        return add_block(program, listed)
    if kind == NUM:
        return add_num(program, numbers[0], numbers[1])
    if kind == TWO:
        return add_two(program, numbers[0], numbers[1], numbers[2], numbers[3])
    if kind == SAY:
        return add_say(program, numbers[0])
    if kind == CALL:
        return add_call(program, numbers[0], numbers[1], listed)
    if kind == JUMP:
        return add_jump(program, numbers[0], listed)
    if kind == FORK:
        return add_fork(program, numbers[0], numbers[1], numbers[2], numbers[3], listed)
    return add_give(program, numbers[0])


def tell(program, kind, numbers, listed):
    """All numbers that a call answers which asks about the program."""
    if kind == SHOWS:
        return tell_shows(program)
    if kind == RUN:
        return tell_run(program, numbers[0], numbers[1], listed)
    if kind == COUNTS:
        return tell_counts(program, numbers[0], numbers[1], listed)
    if kind == PUTIN:
        return tell_putin(program, numbers[0], numbers[1], numbers[2])
    if kind == CHOOSE:
        return tell_choose(program, numbers[0], numbers[1], numbers[2], listed)
    if kind == RUNCHOSEN:
        return tell_runchosen(program, numbers[0], numbers[1], numbers[2], listed)
    return tell_whole(program, numbers[0], numbers[1], numbers[2], listed)


def answer(program, kind, numbers, listed):
    if kind <= GIVE:
        return [build(program, kind, numbers, listed)]
    return tell(program, kind, numbers, listed)


def answers(calls):
    program = Program()
    told = []
    for part in split_calls(calls):
        numbers = answer(program, part[0], part[1], part[2])
        told.append(len(numbers))
        told.extend(numbers)
    return told
