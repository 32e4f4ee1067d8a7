"""Writes calls as the interface wants them, and reads the answers back."""

import unittest

from putcalls.shop import answers

GREATEST = 4294967295
# By a call's number: how many whole numbers it has, and how many its list has at most, if it has one.
WHOLES = (1, 0, 2, 4, 1, 2, 1, 4, 1, 0, 2, 2, 3, 3, 3, 3)
LIST_MOST = {1: 8, 5: 8, 6: 8, 7: 12, 10: 8, 11: 8, 13: 8, 14: 8, 15: 8}
GIVE = 8


def function(k):
    return [0, k]


def block(*taken):
    return [1, len(taken), *taken]


def num(x, n=0):
    return [2, x, n]


def two(x, o, a, b):
    return [3, x, o, a, b]


def say(a):
    return [4, a]


def call(x, g, *handed):
    return [5, x, g, len(handed), *handed]


def jump(t, *handed):
    return [6, t, len(handed), *handed]


def fork(v, t, u, n, *handed):
    return [7, v, t, u, n, len(handed), *handed]


def give(v):
    return [8, v]


def shows():
    return [9]


def run(f, n, *words):
    return [10, f, n, len(words), *words]


def counts(f, n, *words):
    return [11, f, n, len(words), *words]


def putin(f, b, r):
    return [12, f, b, r]


def choose(size, f, n, *words):
    return [13, size, f, n, len(words), *words]


def runchosen(size, f, n, *words):
    return [14, size, f, n, len(words), *words]


def whole(size, f, n, *words):
    return [15, size, f, n, len(words), *words]


def flat(*parts):
    """The numbers of lists within lists, one behind another: so that what is expected can stand in rows."""
    numbers = []
    for part in parts:
        if isinstance(part, int):
            numbers.append(part)
        else:
            numbers.extend(flat(*part))
    return numbers


def read(kind, numbers):
    """One answer: a number if it is one of the program's telling or a refusal, else its list."""
    if kind <= GIVE or numbers[0] < 0:
        if len(numbers) != 1:
            raise AssertionError(f"not one number: {numbers}")
        return numbers[0]
    if min(numbers) < 0:
        raise AssertionError(f"a number below 0 that is no refusal: {numbers}")
    return numbers


def ask(*calls):
    """The answers to the calls; the line is one that may be asked."""
    line = flat(*calls)
    if not 1 <= len(calls) <= 40 or len(line) > 720:
        raise AssertionError("no such line is handed in")
    told = answers(line)
    found = []
    at = 0
    for one in calls:
        behind = at + 1 + told[at]
        found.append(read(one[0], told[at + 1:behind]))
        at = behind
    if at != len(told):
        raise AssertionError(f"more is answered than asked: {told}")
    return found


# Told behind a call, these bring to light what it might have left behind.
TAILS = (
    (shows(),),
    (function(0), function(0), function(0), function(0), function(0), function(0)),
    (block(), block(), jump(1), block(), jump(1), block(), jump(1), block(), jump(1),
     block(), jump(1), block(), jump(1), block(), shows()),
    (num(0), num(0), num(0), num(0), num(0), num(0), num(0), num(0), num(0), jump(1), shows()),
    (call(0, 0), call(0, 0), call(0, 0), call(0, 0), call(0, 0), call(0, 0), call(0, 0), call(0, 0), call(0, 0)),
    (jump(1), jump(1), block(), fork(0, 1, 1, 0), shows()),
    (give(1), give(1), block(), give(0), shows()),
    (jump(1), function(0), block(), jump(1), shows()),
    (run(0, 9), counts(0, 9), putin(0, 0, 0), whole(99, 0, 9), run(0, 9)),
)


class LineTest(unittest.TestCase):
    def last(self, before, asked):
        return ask(*before, asked)[-1]

    def accepts(self, before, asked, expected):
        self.assertEqual(self.last(before, asked), expected, (before, asked))

    def leaves(self, before, asked):
        """What is told behind the call is answered as without it."""
        at = len(before)
        for tail in TAILS:
            told = ask(*before, asked, *tail)
            self.assertEqual(told[:at] + told[at + 1:], ask(*before, *tail), (before, asked, tail))

    def refuses(self, before, asked, number):
        self.accepts(before, asked, number)
        self.leaves(before, asked)
