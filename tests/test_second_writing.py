"""The document written a second time, in another way, and held against the program's answers on many programs.

What is shown in numbers is read back, and all else is worked out from it: runs by recursion, a call put in by
renaming, the choice by making every program that there is to choose from.
"""

import itertools
import random
import sys
import unittest

from lines import (
    GREATEST, ask, block, call, choose, counts, flat, fork, function, give, jump, num, putin, run, runchosen, say,
    shows, two, whole,
)

OPERATIONS = (
    lambda a, b: a + b, lambda a, b: a - b, lambda a, b: a * b, lambda a, b: a & b, lambda a, b: a | b,
    lambda a, b: a ^ b, lambda a, b: a * 2 ** (b % 32), lambda a, b: a // 2 ** (b % 32), lambda a, b: int(a < b),
    lambda a, b: int(a == b), lambda a, b: a // b,
)


# Reading: a program is a list of (k, blocks), a block is [taken, rows, end], a row or end is a list with lists in it.

def read_list(numbers):
    return [next(numbers) for at in range(next(numbers))]


def read_row(numbers):
    form = next(numbers)
    if form == 4:
        return [4, next(numbers), next(numbers), read_list(numbers)]
    return [form] + [next(numbers) for at in range({0: 2, 2: 4, 3: 1}[form])]


def read_end(numbers):
    form = next(numbers)
    if form == 0:
        return [0, next(numbers), read_list(numbers)]
    if form == 1:
        return [1, next(numbers), next(numbers), read_list(numbers), next(numbers), read_list(numbers)]
    return [2, next(numbers)]


def read_block(numbers):
    return [read_list(numbers), [read_row(numbers) for at in range(next(numbers))], read_end(numbers)]


def read_function(numbers):
    return (next(numbers), [read_block(numbers) for at in range(next(numbers))])


def read_program(told):
    numbers = iter(told)
    return [read_function(numbers) for at in range(next(numbers))], list(numbers)


# Runs, by recursion.

class Over(Exception):
    pass


class Runs:
    def __init__(self, program, n):
        self.program, self.left, self.said, self.made = program, n, [], {}

    def step(self):
        if self.left == 0:
            raise Over([2])
        self.left -= 1

    def call(self, f, handed):
        words = [0] * 1000
        words[:len(handed)] = handed
        b = 0
        while True:
            for r, row in enumerate(self.program[f][1][b][1]):
                self.step()
                self.row(words, row, (f, b, r))
            self.step()
            end = self.program[f][1][b][2]
            if end[0] == 2:
                return words[end[1]]
            if end[0] == 1:
                end = end[1:4] if words[end[1]] else [0] + end[4:]
            b = end[1]
            for name, word in zip(self.program[f][1][b][0], [words[name] for name in end[2]]):
                words[name] = word

    def row(self, words, row, place):
        if row[0] == 0:
            words[row[1]] = row[2]
        if row[0] == 2:
            try:
                words[row[1]] = OPERATIONS[row[2]](words[row[3]], words[row[4]]) % 2 ** 32
            except ZeroDivisionError:
                raise Over([1])
        if row[0] == 3:
            self.said.append(words[row[1]])
        if row[0] == 4:
            self.made[place] = self.made.get(place, 0) + 1
            words[row[1]] = self.call(row[2], [words[name] for name in row[3]])


def run_told(program, f, n, words):
    """What is told of the run, and how often each call was made."""
    runs = Runs(program, n)
    try:
        stands = [0, runs.call(f, words)]
    except Over as over:
        stands = over.args[0]
    return [len(runs.said), *runs.said, *stands, sum(runs.made.values())], runs.made


# A call put in.

def renamed_row(row, name):
    if row[0] == 0:
        return [0, name(row[1]), row[2]]
    if row[0] == 2:
        return [2, name(row[1]), row[2], name(row[3]), name(row[4])]
    if row[0] == 3:
        return [3, name(row[1])]
    return [4, name(row[1]), row[2], [name(one) for one in row[3]]]


def renamed_end(end, name, to):
    if end[0] == 0:
        return [0, to(end[1]), [name(one) for one in end[2]]]
    if end[0] == 1:
        return [1, name(end[1]), to(end[2]), [name(one) for one in end[3]], to(end[4]), [name(one) for one in end[5]]]
    return [2, name(end[1])]


def names(made):
    """All that a renaming comes across, and those handed."""
    found = set(range(made[0]))
    for taken, rows, end in made[1]:
        found.update(taken)
        for row in rows:
            renamed_row(row, found.add)
        renamed_end(end, found.add, abs)
    return found


def put_in(made, called, b, r):
    k, blocks = made
    d = max(names(made), default=-1) + 1
    n, c = len(blocks), len(blocks) + len(called[1])
    taken, rows, end = blocks[b]
    copies = []
    for its_taken, its_rows, its_end in called[1]:
        new_end = renamed_end(its_end, lambda name: name + d, lambda to: to + n)
        copies.append([[name + d for name in its_taken], [renamed_row(row, lambda name: name + d) for row in its_rows],
                       [0, c, [new_end[1]]] if new_end[0] == 2 else new_end])
    copies[0][0] = [name + d for name in range(called[0])]
    copies[0][1] = [[0, name + d, 0] for name in sorted(names(called)) if name >= called[0]] + copies[0][1]
    ahead = [taken, rows[:r], [0, n, rows[r][3]]]
    return (k, blocks[:b] + [ahead] + blocks[b + 1:] + copies + [[[rows[r][1]], rows[r + 1:], end]])


def places(program):
    return [(f, b, r) for f, one in enumerate(program) for b, its in enumerate(one[1])
            for r, row in enumerate(its[1]) if row[0] == 4]


def called_at(program, place):
    return program[place[0]][1][place[1]][1][place[2]][2]


def with_these(program, chosen):
    made = []
    for f, one in enumerate(program):
        for place in sorted(chosen, reverse=True):
            if place[0] == f:
                one = put_in(one, made[called_at(program, place)], place[1], place[2])
        made.append(one)
    return made


def size_of(program):
    return sum(len(taken) + len(rows) + 1 for k, blocks in program for taken, rows, end in blocks)


def all_choices(program, made):
    """What each spares, its size, its calls; the first within a size is the choice."""
    may = [place for place in places(program) if called_at(program, place) < place[0]]
    found = []
    for ins in itertools.product((True, False), repeat=len(may)):
        chosen = [place for place, is_in in zip(may, ins) if is_in]
        spared = sum(made.get(place, 0) for place in chosen)
        found.append((-spared, size_of(with_these(program, chosen)), [not is_in for is_in in ins], chosen))
    return [(-less, size, chosen) for less, size, outs, chosen in sorted(found)]


def shown(one):
    """Lists of what was read, with their lengths ahead again."""
    k, blocks = one
    return flat(k, len(blocks), [[len(taken), taken, len(rows), [shown_row(row) for row in rows], shown_row(end)]
                                 for taken, rows, end in blocks])


def shown_row(row):
    return [[len(part), part] if isinstance(part, list) else part for part in row]


# Programs to be asked about.

class Maker:
    """Makes a line's calls that tell a sound program."""

    def __init__(self, seed):
        self.chance = random.Random(seed)
        self.ks = [self.chance.choice((0, 1, 1, 2, 3, 4)) for at in range(self.chance.choice((1, 2, 3, 3, 4, 4, 5)))]
        self.calls_left = 8
        self.most = self.chance.choice((3, 5, 23))

    def name(self):
        return self.chance.randint(0, self.most)

    def some_names(self, many):
        return [self.name() for at in range(many)]

    def row(self, f):
        if self.calls_left and self.chance.random() < (0.6 if f else 0.05):
            self.calls_left -= 1
            # Seldom one that may not be put in: such a run is seldom over.
            g = self.chance.randrange(f if f and self.chance.random() < 0.95 else len(self.ks))
            return call(self.name(), g, *self.some_names(self.ks[g]))
        if self.chance.random() < 0.3:
            return say(self.name())
        if self.chance.random() < 0.4:
            return num(self.name(), self.chance.choice((0, 1, 2, 31, 32, GREATEST, self.chance.randint(0, GREATEST))))
        o = self.chance.choice((0, 1, 2, 3, 4, 5, 6, 7, 8, 9, 10, 1, 9))
        return two(self.name(), o, self.name(), self.name())

    def end(self, b, takens):
        others = list(range(1, len(takens)))
        if b == len(takens) - 1 or self.chance.random() < 0.2:
            return give(self.name())
        t = self.chance.choice(others[b:] if self.chance.random() < 0.8 else others)
        if self.chance.random() < 0.4:
            return jump(t, *self.some_names(len(takens[t])))
        u = self.chance.choice(others[b:])
        return fork(self.name(), t, u, len(takens[t]), *self.some_names(len(takens[t]) + len(takens[u])))

    def told(self, room):
        """At most so many calls."""
        calls = []
        for f, k in enumerate(self.ks):
            left = (room - len(calls)) // (len(self.ks) - f)
            many = self.chance.randint(1, max(1, min(4, left // 4)))
            takens = [[]] + [self.some_names(self.chance.randint(0, 3)) for b in range(many - 1)]
            rows = max(0, min(8, (left - 1 - 2 * many) // many))
            calls.append(function(k))
            for b in range(many):
                calls.append(block(*takens[b]))
                calls.extend(self.row(f) for at in range(self.chance.randint(min(1, rows), rows)))
                calls.append(self.end(b, takens))
        return calls

    def words(self, f):
        return [self.chance.choice((0, 1, 2, 3, 5, GREATEST)) for at in range(self.ks[f])]


class SecondWritingTest(unittest.TestCase):
    def setUp(self):
        limit = sys.getrecursionlimit()
        sys.setrecursionlimit(8000)
        self.addCleanup(sys.setrecursionlimit, limit)

    def lines(self, many):
        for seed in range(many):
            maker = Maker(seed)
            before = maker.told(32)
            f = maker.chance.choice((len(maker.ks) - 1, maker.chance.randrange(len(maker.ks))))
            n = maker.chance.choice((0, 1, 10, 100, 1000, 1000, 1000))
            told = ask(*before, shows())
            program, left = read_program(told[-1])
            self.assertEqual(left, [0])
            self.assertEqual(flat(len(program), [shown(one) for one in program]) + left, told[-1])
            yield maker, before, program, f, n, maker.words(f)

    def test_run_and_counts(self):
        stood = {}
        for maker, before, program, f, n, words in self.lines(800):
            ran, counted = ask(*before, run(f, n, *words), counts(f, n, *words))[-2:]
            told, made = run_told(program, f, n, words)
            self.assertEqual(ran, told, before)
            all_places = places(program)
            self.assertEqual(counted, flat(len(all_places), [[*at, made.get(at, 0)] for at in all_places]), before)
            how = ran[ran[0] + 1]
            stood[how] = stood.get(how, 0) + 1
        for how in range(3):
            self.assertGreater(stood[how], 40, stood)

    def test_putin(self):
        for maker, before, program, f, n, words in self.lines(500):
            for place in places(program):
                made = put_in(program[place[0]], program[called_at(program, place)], place[1], place[2])
                self.assertEqual(ask(*before, putin(*place))[-1], shown(made), before)

    def test_choose_runchosen_and_whole(self):
        chosen_before = {}
        for maker, before, program, f, n, words in self.lines(300):
            own = size_of(program)
            ran, made = run_told(program, f, n, words)
            found = all_choices(program, made)
            largest = found[0][1]
            for size in (own, maker.chance.randint(own, largest), max(own, largest - 1), largest):
                asked = [one(size, f, n, *words) for one in (choose, runchosen, whole)]
                told, ran_chosen, told_whole = ask(*before, *asked)[-3:]
                spared, its_size, chosen = next(one for one in found if one[1] <= size)
                self.assertEqual(told, flat(spared, its_size, len(chosen), chosen), (before, size))
                expected = with_these(program, chosen)
                self.assertEqual(told_whole, flat(len(expected), [shown(one) for one in expected]), (before, size))
                self.assertEqual(ran_chosen, run_told(expected, f, n, words)[0], (before, size))
                chosen_before[len(chosen)] = chosen_before.get(len(chosen), 0) + 1
        for many in range(5):
            self.assertGreater(chosen_before[many], 5, chosen_before)

    def test_what_is_made_does_the_same_whatever_it_is_asked(self):
        compared = 0
        for maker, before, program, f, n, words in self.lines(300):
            told, told_whole = ask(*before, choose(GREATEST, f, n, *words), whole(GREATEST, f, n, *words))[-2:]
            made = read_program(told_whole)[0]
            for other in range(len(program)):
                its_words = maker.words(other)
                one = run_told(program, other, 1000, its_words)[0]
                # What is made may do more steps: a number row for each name of each function put in.
                two_of_them = run_told(made, other, 2000, its_words)[0]
                if one[one[0] + 1] != 2 and two_of_them[two_of_them[0] + 1] != 2:
                    self.assertEqual(one[:-1], two_of_them[:-1], before)
                    compared += 1
            if told[0]:
                ran, ran_chosen = ask(*before, run(f, n, *words), runchosen(GREATEST, f, n, *words))[-2:]
                if ran[ran[0] + 1] != 2 and ran_chosen[ran_chosen[0] + 1] != 2:
                    self.assertEqual(ran_chosen, ran[:-1] + [ran[-1] - told[0]], before)
        self.assertGreater(compared, 400)


if __name__ == "__main__":
    unittest.main()
