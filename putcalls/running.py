"""Runs: what a function does, step by step."""

from putcalls.program import ROW_NUM, ROW_TWO, ROW_SAY, END_JUMP, END_FORK

# How many words there are: what is above the greatest begins again at 0.
WORDS = 4294967296
BITS = 32

SUM = 0
LESS = 1
PRODUCT = 2
AND = 3
OR = 4
EXCLUSIVE_OR = 5
UP = 6
DOWN = 7
IS_LESS = 8
IS_SAME = 9
QUOTIENT = 10


class Begun:
    """A function that has begun and is not over: where it stands and what words its names have.

    A name that is not among the words has 0. The getter is the name that gets
    the given word, in the function that called; None if the run began with it.
    """

    def __init__(self, f, handed, getter):
        self.f = f
        self.b = 0
        self.r = 0
        self.getter = getter
        self.words = {}
        for name in range(len(handed)):
            self.words[name] = handed[name]


class Run:
    """The functions that have begun are a list, the newest last, so that they may be nested however deep."""

    def __init__(self, program, f, handed):
        self.program = program
        self.begun = [Begun(f, handed, None)]
        self.said = []
        self.made = {}
        self.failed = False
        self.given = None


def result(o, first, second):
    """What the operation makes of two words; a quotient is not asked by 0."""
    if o == SUM:
        return (first + second) % WORDS
    if o == LESS:
        return (first - second) % WORDS
    if o == PRODUCT:
        return first * second % WORDS
    if o == AND:
        return first & second
    if o == OR:
        return first | second
    if o == EXCLUSIVE_OR:
        return first ^ second
    if o == UP:
        return (first << second % BITS) % WORDS
    if o == DOWN:
        return first >> second % BITS
    if o == IS_LESS:
        return 1 if first < second else 0
    if o == IS_SAME:
        return 1 if first == second else 0
    return first // second


def word_of(begun, name):
    return begun.words.get(name, 0)


def words_of(begun, names):
    return [word_of(begun, name) for name in names]


def do_two(run, begun, row):
    first = word_of(begun, row[3])
    second = word_of(begun, row[4])
    if row[2] == QUOTIENT and second == 0:
        run.failed = True
    else:
        begun.words[row[1]] = result(row[2], first, second)


def do_call(run, begun, row):
    place = (begun.f, begun.b, begun.r)
    run.made[place] = run.made.get(place, 0) + 1
    run.begun.append(Begun(row[2], words_of(begun, row[3]), row[1]))


def do_row(run, begun, row):
    if row[0] == ROW_NUM:
        begun.words[row[1]] = row[2]
    elif row[0] == ROW_TWO:
        do_two(run, begun, row)
    elif row[0] == ROW_SAY:
        run.said.append(word_of(begun, row[1]))
    else:
        do_call(run, begun, row)
    begun.r += 1


def go_on(run, begun, t, handed):
    taken = run.program.functions[begun.f].blocks[t].taken
    # All words are read ahead of the first that is given: they are handed over all at once.
    words = words_of(begun, handed)
    for at in range(len(taken)):
        begun.words[taken[at]] = words[at]
    begun.b = t
    begun.r = 0


def give(run, word):
    over = run.begun.pop()
    if len(run.begun) == 0:
        run.given = word
    else:
        caller = run.begun[-1]
        caller.words[over.getter] = word


def do_ending(run, begun, ending):
    if ending[0] == END_JUMP:
        go_on(run, begun, ending[1], ending[2])
    elif ending[0] == END_FORK:
        if word_of(begun, ending[1]) != 0:
            go_on(run, begun, ending[2], ending[3])
        else:
            go_on(run, begun, ending[4], ending[5])
    else:
        give(run, word_of(begun, ending[1]))


def do_step(run):
    begun = run.begun[-1]
    block = run.program.functions[begun.f].blocks[begun.b]
    if begun.r < len(block.rows):
        do_row(run, begun, block.rows[begun.r])
    else:
        do_ending(run, begun, block.ending)


def run_of(program, f, n, words):
    """The run of n steps of function f, as it stands when it has stopped."""
    run = Run(program, f, words)
    done = 0
    while done < n and run.given is None and not run.failed:
        do_step(run)
        done += 1
    return run


def how_it_stands(run):
    if run.given is not None:
        return [0, run.given]
    if run.failed:
        return [1]
    return [2]


def times_made(run, place):
    return run.made.get(place, 0)


def calls_made(run):
    return sum(run.made.values())
