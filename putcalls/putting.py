"""A call put in: a function made anew, with the called one's blocks where the call stood.

What is made shares blocks with what it is made from; that is let, since a
block is never changed once it has its end.
"""

from putcalls.program import Block, Function, Program
from putcalls.program import ROW_NUM, END_JUMP, END_FORK
from putcalls.names import first_free_name, names_above, other_names, row_above


def block_of(taken, rows, ending):
    block = Block(taken)
    block.rows.extend(rows)
    block.ending = ending
    return block


def copied_ending(ending, d, n, c):
    if ending[0] == END_JUMP:
        return (END_JUMP, ending[1] + n, names_above(ending[2], d))
    if ending[0] == END_FORK:
        to_t = names_above(ending[3], d)
        to_u = names_above(ending[5], d)
        return (END_FORK, ending[1] + d, ending[2] + n, to_t, ending[4] + n, to_u)
    # What gave a word hands it on to the block behind the copies.
    return (END_JUMP, c, (ending[1] + d,))


def copied_blocks(called, d, n, c):
    """The called function's blocks as they stand from block n on, ahead of block c, their names above by d."""
    copies = []
    for block in called.blocks:
        rows = [row_above(row, d) for row in block.rows]
        copies.append(block_of(names_above(block.taken, d), rows, copied_ending(block.ending, d, n, c)))
    # A function's names begin anew each time; a copy may be come to again, so its block 0 sees to that.
    first = copies[0]
    taken = tuple([name + d for name in range(called.handed)])
    cleared = [(ROW_NUM, name + d, 0) for name in other_names(called)]
    copies[0] = block_of(taken, cleared + first.rows, first.ending)
    return copies


def put_in(function, functions, b, r):
    """The function with the call at its block b, row r put in; the called one is taken from functions."""
    parted = function.blocks[b]
    row = parted.rows[r]
    called = functions[row[2]]
    n = len(function.blocks)
    c = n + len(called.blocks)
    made = Function(function.handed)
    made.blocks.extend(function.blocks)
    made.blocks[b] = block_of(parted.taken, parted.rows[:r], (END_JUMP, n, row[3]))
    made.blocks.extend(copied_blocks(called, first_free_name(function), n, c))
    made.blocks.append(block_of((row[1],), parted.rows[r + 1:], parted.ending))
    return made


def with_put_in(program, places):
    """The program with the calls at these places put in; the places stand in the order of all calls."""
    made = Program()
    for f in range(len(program.functions)):
        function = program.functions[f]
        # The last one first: what stands ahead of it keeps its block and row.
        for place in reversed(places):
            if place[0] == f:
                function = put_in(function, made.functions, place[1], place[2])
        made.functions.append(function)
    return made
