"""Writes calls as the interface wants them, and reads the answers back."""

import unittest

from putcalls.shop import answers

GREATEST = 4294967295
LIST_MOST = {1: 8, 5: 8, 6: 8, 7: 12}


def function(k):
    return [0, k]


def block(*taken):
    return [1, len(taken), *taken]


def num(x, n=0):
    return [2, x, n]


def two(x, o, a, b):
    return [3, x, o, a, b]


def say(a):
    return [4, a]


def call(x, g, *handed):
    return [5, x, g, len(handed), *handed]


def jump(t, *handed):
    return [6, t, len(handed), *handed]


def fork(v, t, u, n, *handed):
    return [7, v, t, u, n, len(handed), *handed]


def ask(*calls):
    """The answers to the calls, one number each; the line is one that may be asked."""
    line = [number for one in calls for number in one]
    if not 1 <= len(calls) <= 40 or len(line) > 720:
        raise AssertionError("no such line is handed in")
    told = answers(line)
    if len(told) != 2 * len(calls) or any(count != 1 for count in told[::2]):
        raise AssertionError(f"not one number for each call: {told}")
    return told[1::2]


# Told behind a refused call, these bring to light what it might have left behind.
TAILS = (
    (function(0), function(0), function(0), function(0), function(0), function(0)),
    (block(), block(), jump(1), block(), jump(1), block(), jump(1), block(), jump(1),
     block(), jump(1), block(), jump(1), block()),
    (num(0), num(0), num(0), num(0), num(0), num(0), num(0), num(0), num(0), jump(1)),
    (call(0, 0), call(0, 0), call(0, 0), call(0, 0), call(0, 0), call(0, 0), call(0, 0), call(0, 0), call(0, 0)),
    (jump(1), jump(1), block(), fork(0, 1, 1, 0)),
    (jump(1), function(0), block(), jump(1)),
)


class LineTest(unittest.TestCase):
    def last(self, before, asked):
        return ask(*before, asked)[-1]

    def accepts(self, before, asked, number):
        self.assertEqual(self.last(before, asked), number, (before, asked))

    def refuses(self, before, asked, number):
        """The call is refused with the number, and what is told behind it is answered as without it."""
        self.assertEqual(self.last(before, asked), number, (before, asked))
        at = len(before)
        for tail in TAILS:
            told = ask(*before, asked, *tail)
            self.assertEqual(told[:at] + told[at + 1:], ask(*before, *tail), (before, asked, tail))
