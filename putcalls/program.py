"""What a program is made of: functions, and their blocks of rows and an end.

Rows and ends are tuples that begin with the number that the document gives
to their form: (0, x, n) a number, (2, x, o, a, b) two, (3, a) say,
(4, x, g, handed) a call; (0, t, handed) a jump, (1, v, t, to_t, u, to_u) a fork,
(2, v) give.
"""

ROW_NUM = 0
ROW_TWO = 2
ROW_SAY = 3
ROW_CALL = 4

END_JUMP = 0
END_FORK = 1
END_GIVE = 2


class Block:
    def __init__(self, taken):
        self.taken = taken
        self.rows = []
        self.ending = None


class Function:
    def __init__(self, handed):
        self.handed = handed
        self.blocks = []


class Program:
    """The open block is kept apart from its function's blocks: it has no end yet."""

    def __init__(self):
        self.functions = []
        self.unended = None


def calls_among(rows):
    """At which rows calls stand."""
    return [r for r in range(len(rows)) if rows[r][0] == ROW_CALL]


def all_calls(program):
    """The calls of all blocks that are ended, in order, each told by its function, block, row."""
    places = []
    for f in range(len(program.functions)):
        blocks = program.functions[f].blocks
        for b in range(len(blocks)):
            places.extend([(f, b, r) for r in calls_among(blocks[b].rows)])
    return places


def row_at(program, place):
    return program.functions[place[0]].blocks[place[1]].rows[place[2]]


def calls_standing(program):
    """How many calls stand in the program; those of the open block stand there too."""
    standing = len(all_calls(program))
    if program.unended is not None:
        standing += len(calls_among(program.unended.rows))
    return standing
