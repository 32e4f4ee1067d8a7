"""Which calls are put in: the choice for a size and a run."""

from putcalls.program import all_calls, row_at
from putcalls.names import names_of
from putcalls.running import times_made


class Choice:
    def __init__(self, places, spared, size):
        self.places = places
        self.spared = spared
        self.size = size


def function_size(function):
    return sum([len(block.taken) + len(block.rows) + 1 for block in function.blocks])


def program_size(program):
    return sum([function_size(function) for function in program.functions])


def may_be_put_in(program):
    return [place for place in all_calls(program) if row_at(program, place)[2] < place[0]]


def all_choices(places):
    """Of any two choices, the one that has the first call that isn't in both stands first."""
    choices = [[]]
    for place in places:
        longer = []
        for chosen in choices:
            longer.append(chosen + [place])
            longer.append(chosen)
        choices = longer
    return choices


def size_with(program, own_sizes, own_names, places):
    """The program's size with these calls put in; own: of each function as it is, its size and how many names.

    A call put in goes, and the called one's blocks and the one behind them
    come; its block 0 takes over, or gives 0, each of the called one's names
    once. All names of both are names of what is made.
    """
    sizes = []
    names = []
    for f in range(len(own_sizes)):
        sizes.append(own_sizes[f])
        names.append(own_names[f])
        for place in places:
            if place[0] == f:
                g = row_at(program, place)[2]
                sizes[f] += sizes[g] + names[g] + 1
                names[f] += names[g]
    return sum(sizes)


def is_better(one, other):
    if one.spared != other.spared:
        return one.spared > other.spared
    return one.size < other.size


def choice_for(program, size, run):
    """The choice for a size, which the program's own is not above, and a run."""
    own_sizes = [function_size(function) for function in program.functions]
    own_names = [len(names_of(function)) for function in program.functions]
    best = Choice([], 0, sum(own_sizes))
    for places in all_choices(may_be_put_in(program)):
        spared = sum([times_made(run, place) for place in places])
        one = Choice(places, spared, size_with(program, own_sizes, own_names, places))
        if one.size <= size and is_better(one, best):
            best = one
    return best
