"""The calls by which a program is told.

Each answers a number from 0 on, or a refusal: a number below 0, and the
program is as it was. The order of the refusals is part of what is promised,
so each function asks for them in the document's order and changes nothing
before the last of them.
"""

from putcalls.program import Block, Function
from putcalls.program import ROW_NUM, ROW_TWO, ROW_SAY, ROW_CALL, END_JUMP, END_FORK, END_GIVE
from putcalls.program import calls_standing

GREATEST_NAME = 23
GREATEST_OPERATION = 10
GREATEST_CALLED = 4
FIRST_TARGET = 1
LAST_TARGET = 5

MOST_WORDS = 4
MOST_FUNCTIONS = 5
MOST_BLOCKS = 6
MOST_TAKEN = 4
MOST_ROWS = 8
MOST_CALLS = 8
MOST_HANDED_TO_FUNCTION = 4
MOST_HANDED_BY_JUMP = 4
MOST_HANDED_BY_FORK = 8


def has_wrong_name(names):
    return any([name > GREATEST_NAME for name in names])


def is_wrong_target(block):
    return block < FIRST_TARGET or block > LAST_TARGET


def add_function(program, k):
    if program.unended is not None:
        return -3
    if k > MOST_WORDS or len(program.functions) >= MOST_FUNCTIONS:
        return -1
    program.functions.append(Function(k))
    return len(program.functions) - 1


def add_block(program, taken):
    if program.unended is not None or len(program.functions) == 0:
        return -3
    if has_wrong_name(taken):
        return -2
    blocks = program.functions[-1].blocks
    if len(blocks) >= MOST_BLOCKS or len(taken) > MOST_TAKEN:
        return -1
    program.unended = Block(tuple(taken))
    return len(blocks)


def put_row(program, row, names):
    """The refusals that all rows share are told last, so they are asked for here."""
    if has_wrong_name(names):
        return -2
    rows = program.unended.rows
    if len(rows) >= MOST_ROWS:
        return -1
    rows.append(row)
    return len(rows)


def add_num(program, x, n):
    if program.unended is None:
        return -3
    return put_row(program, (ROW_NUM, x, n), [x])


def add_two(program, x, o, a, b):
    if program.unended is None:
        return -3
    if o > GREATEST_OPERATION:
        return -4
    return put_row(program, (ROW_TWO, x, o, a, b), [x, a, b])


def add_say(program, a):
    if program.unended is None:
        return -3
    return put_row(program, (ROW_SAY, a), [a])


def add_call(program, x, g, handed):
    if program.unended is None:
        return -3
    if g > GREATEST_CALLED or len(handed) > MOST_HANDED_TO_FUNCTION:
        return -4
    if calls_standing(program) >= MOST_CALLS:
        return -5
    return put_row(program, (ROW_CALL, x, g, tuple(handed)), [x] + handed)


def put_end(program, ending):
    block = program.unended
    block.ending = ending
    blocks = program.functions[-1].blocks
    blocks.append(block)
    program.unended = None
    return len(blocks)


def add_jump(program, t, handed):
    if program.unended is None:
        return -3
    if len(handed) > MOST_HANDED_BY_JUMP:
        return -1
    if has_wrong_name(handed) or is_wrong_target(t):
        return -2
    return put_end(program, (END_JUMP, t, tuple(handed)))


def add_fork(program, v, t, u, n, handed):
    if program.unended is None:
        return -3
    if len(handed) < n or len(handed) > MOST_HANDED_BY_FORK:
        return -1
    if has_wrong_name([v] + handed) or is_wrong_target(t) or is_wrong_target(u):
        return -2
    return put_end(program, (END_FORK, v, t, tuple(handed[:n]), u, tuple(handed[n:])))


def add_give(program, v):
    if program.unended is None:
        return -3
    if has_wrong_name([v]):
        return -2
    return put_end(program, (END_GIVE, v))
