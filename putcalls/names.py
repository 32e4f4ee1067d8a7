"""The names that a function has, and the rows and ends with other names in their place."""

from putcalls.program import ROW_NUM, ROW_TWO, ROW_CALL, END_JUMP, END_FORK


def names_in_row(row):
    if row[0] == ROW_TWO:
        return [row[1], row[3], row[4]]
    if row[0] == ROW_CALL:
        return [row[1]] + list(row[3])
    # A number row or say: it has one name.
    return [row[1]]


def names_in_ending(ending):
    if ending[0] == END_JUMP:
        return list(ending[2])
    if ending[0] == END_FORK:
        return [ending[1]] + list(ending[3]) + list(ending[5])
    return [ending[1]]


def names_of(function):
    """All names of the function, the least first, each once."""
    names = list(range(function.handed))
    for block in function.blocks:
        names.extend(block.taken)
        for row in block.rows:
            names.extend(names_in_row(row))
        names.extend(names_in_ending(block.ending))
    return sorted(set(names))


def other_names(function):
    """The names that no word is handed to: they are 0 when the function begins."""
    return [name for name in names_of(function) if name >= function.handed]


def first_free_name(function):
    names = names_of(function)
    if len(names) == 0:
        return 0
    return names[-1] + 1


def names_above(names, d):
    return tuple([name + d for name in names])


def row_above(row, d):
    """The row with each name the one above it by d."""
    if row[0] == ROW_NUM:
        return (row[0], row[1] + d, row[2])
    if row[0] == ROW_TWO:
        return (row[0], row[1] + d, row[2], row[3] + d, row[4] + d)
    if row[0] == ROW_CALL:
        return (row[0], row[1] + d, row[2], names_above(row[3], d))
    return (row[0], row[1] + d)
