"""Programs in numbers."""

from putcalls.program import ROW_CALL, END_JUMP, END_FORK


def list_in_numbers(names):
    return [len(names)] + list(names)


def row_in_numbers(row):
    if row[0] == ROW_CALL:
        return list(row[:3]) + list_in_numbers(row[3])
    return list(row)


def ending_in_numbers(ending):
    if ending[0] == END_JUMP:
        return list(ending[:2]) + list_in_numbers(ending[2])
    if ending[0] == END_FORK:
        to_t = list(ending[:3]) + list_in_numbers(ending[3])
        return to_t + [ending[4]] + list_in_numbers(ending[5])
    return list(ending)


def unended_in_numbers(block):
    """A block without its end, which an open one does not have."""
    numbers = list_in_numbers(block.taken)
    numbers.append(len(block.rows))
    for row in block.rows:
        numbers.extend(row_in_numbers(row))
    return numbers


def function_in_numbers(function):
    numbers = [function.handed, len(function.blocks)]
    for block in function.blocks:
        numbers.extend(unended_in_numbers(block))
        numbers.extend(ending_in_numbers(block.ending))
    return numbers


def program_in_numbers(program):
    numbers = [len(program.functions)]
    for function in program.functions:
        numbers.extend(function_in_numbers(function))
    return numbers
