"""What a program is made of: functions, and their blocks of rows and an end.

Rows and ends are tuples that begin with the number that the document gives
to their form: (0, x, n) a number, (2, x, o, a, b) two, (3, a) say,
(4, x, g, handed) a call; (0, t, handed) a jump, (1, v, t, to_t, u, to_u) a fork.
"""

ROW_NUM = 0
ROW_TWO = 2
ROW_SAY = 3
ROW_CALL = 4

END_JUMP = 0
END_FORK = 1


class Block:
    def __init__(self, taken):
        self.taken = taken
        self.rows = []
        self.ending = None


class Function:
    def __init__(self, handed):
        self.handed = handed
        self.blocks = []


class Program:
    """The open block is kept apart from its function's blocks: it has no end yet."""

    def __init__(self):
        self.functions = []
        self.unended = None


def calls_in(block):
    return len([row for row in block.rows if row[0] == ROW_CALL])


def calls_standing(program):
    """How many calls stand in the program; those of the open block stand there too."""
    standing = 0
    for function in program.functions:
        for block in function.blocks:
            standing += calls_in(block)
    if program.unended is not None:
        standing += calls_in(program.unended)
    return standing
