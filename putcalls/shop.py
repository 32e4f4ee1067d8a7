"""The calls of one line, answered in order."""

from putcalls.program import Program
from putcalls.build import add_function, add_block, add_num, add_two, add_say, add_call, add_jump, add_fork

FUNCTION = 0
BLOCK = 1
NUM = 2
TWO = 3
SAY = 4
CALL = 5
JUMP = 6

# By a call's number: how many whole numbers it has, and whether a list stands behind them.
WHOLE_NUMBERS = (1, 0, 2, 4, 1, 2, 1, 4)
HAS_LIST = (False, True, False, False, False, True, True, True)


def split_calls(calls):
    """Each call as a tuple: its number, its whole numbers, its list (empty if it has none)."""
    parts = []
    at = 0
    while at < len(calls):
        kind = calls[at]
        if kind >= len(WHOLE_NUMBERS):
            raise NotImplementedError(f"there is no call {kind} yet")
        behind = at + 1 + WHOLE_NUMBERS[kind]
        numbers = calls[at + 1:behind]
        listed = []
        if HAS_LIST[kind]:
            first = behind + 1
            behind = first + calls[behind]
            listed = calls[first:behind]
        parts.append((kind, numbers, listed))
        at = behind
    return parts


def answer(program, kind, numbers, listed):
    if kind == FUNCTION:
        return add_function(program, numbers[0])
    if kind == BLOCK:
        return add_block(program, listed)
    if kind == NUM:
        return add_num(program, numbers[0], numbers[1])
    if kind == TWO:
        return add_two(program, numbers[0], numbers[1], numbers[2], numbers[3])
    if kind == SAY:
        return add_say(program, numbers[0])
    if kind == CALL:
        return add_call(program, numbers[0], numbers[1], listed)
    if kind == JUMP:
        return add_jump(program, numbers[0], listed)
    # A fork: split_calls lets no other number through.
    return add_fork(program, numbers[0], numbers[1], numbers[2], numbers[3], listed)


def answers(calls):
    program = Program()
    told = []
    for part in split_calls(calls):
        # These calls all answer one number, so the count ahead of it is 1.
        told.append(1)
        told.append(answer(program, part[0], part[1], part[2]))
    return told
