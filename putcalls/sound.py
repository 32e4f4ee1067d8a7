"""Whether a program is one that can be run: all that ends and calls lead to is there, and fits."""

from putcalls.program import END_JUMP, END_FORK, all_calls, row_at


def is_wrong_way(function, t, handed):
    return t >= len(function.blocks) or len(handed) != len(function.blocks[t].taken)


def is_wrong_ending(function, ending):
    if ending[0] == END_JUMP:
        return is_wrong_way(function, ending[1], ending[2])
    if ending[0] == END_FORK:
        return is_wrong_way(function, ending[2], ending[3]) or is_wrong_way(function, ending[4], ending[5])
    return False


def is_wrong_function(function):
    if len(function.blocks) == 0 or len(function.blocks[0].taken) > 0:
        return True
    return any([is_wrong_ending(function, block.ending) for block in function.blocks])


def is_wrong_call(program, row):
    g = row[2]
    return g >= len(program.functions) or len(row[3]) != program.functions[g].handed


def is_sound(program):
    if program.unended is not None or len(program.functions) == 0:
        return False
    if any([is_wrong_function(function) for function in program.functions]):
        return False
    return not any([is_wrong_call(program, row_at(program, place)) for place in all_calls(program)])
