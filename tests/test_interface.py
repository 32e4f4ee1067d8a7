"""The interface: how calls and answers stand in their lists, and that nothing is changed or kept."""

import random
import unittest

import lines
from lines import (
    GREATEST, LIST_MOST, WHOLES, block, call, choose, counts, flat, fork, function, give, jump, num, putin, run,
    runchosen, say, shows, two, whole,
)
from putcalls.shop import answers

# A line that has each of the sixteen calls, some of them refused, and what is answered: each behind how many it is.
CALLS_AND_ANSWERS = (
    (function(2), [0]), (block(), [0]), (num(2, 7), [1]), (two(3, 10, 2, 0), [2]), (say(24), [-2]), (say(3), [3]),
    (fork(3, 1, 1, 1, 2, 3), [1]), (run(0, 9, 1, 1), [-6]), (block(5), [1]), (jump(2, 5, 5, 5, 5, 5), [-1]),
    (jump(2, 5), [2]), (jump(2, 5), [-3]), (block(5), [2]), (give(24), [-2]), (give(5), [3]),
    (function(1), [1]), (block(), [0]), (call(1, 0, 0, 0), [1]),
    (shows(), [2, 2, 3, 0, 3, 0, 2, 7, 2, 3, 10, 2, 0, 3, 3, 1, 3, 1, 1, 2, 1, 1, 3, 1, 5, 0, 0, 2, 1, 5, 1, 5, 0, 2, 5,
               1, 0, 1, 0, 1, 4, 1, 0, 2, 0, 0]),
    (give(1), [1]), (run(1, 99, 2), [1, 3, 0, 7, 1]), (run(1, 99, 0), [0, 1, 1]), (run(1, 3, 2), [0, 2, 1]),
    (run(2, 3, 2), [-2]), (counts(1, 99, 2), [1, 1, 0, 0, 1]), (counts(1, 0, 2), [1, 1, 0, 0, 0]),
    (counts(1, 1001), [-1]), (putin(1, 0, 1), [-2]),
    (putin(1, 0, 0), [1, 5, 0, 0, 0, 1, 2, 0, 0,
                      2, 2, 3, 6, 0, 4, 0, 0, 5, 0, 0, 7, 0, 0, 4, 7, 2, 5, 10, 4, 2, 3, 5, 1, 5, 2, 1, 4, 2, 1, 5,
                      1, 7, 0, 0, 3, 1, 7, 1, 7, 0, 0, 4, 1, 7, 1, 1, 0, 2, 1]),
    (choose(GREATEST, 1, 99, 2), [1, 24, 1, 1, 0, 0]), (choose(23, 1, 99, 2), [0, 10, 0]), (choose(9, 1, 99, 2), [-8]),
    (runchosen(24, 1, 99, 2), [1, 3, 0, 7, 0]), (runchosen(23, 1, 99, 2), [1, 3, 0, 7, 1]),
    (runchosen(24, 1, 99), [-5]),
    (whole(23, 1, 99, 2), [2, 2, 3, 0, 3, 0, 2, 7, 2, 3, 10, 2, 0, 3, 3, 1, 3, 1, 1, 2, 1, 1, 3, 1, 5, 0, 0, 2, 1, 5,
                           1, 5, 0, 2, 5, 1, 1, 0, 1, 4, 1, 0, 2, 0, 0, 2, 1]),
)
LINE = flat([asked for asked, told in CALLS_AND_ANSWERS])
TOLD = flat([[len(told), told] for asked, told in CALLS_AND_ANSWERS])
CHANGES = ("append", "clear", "extend", "insert", "pop", "remove", "reverse", "sort",
           "__setitem__", "__delitem__", "__iadd__", "__imul__")
SOUND = [function(2), block(), jump(1, 0), block(4), two(4, 0, 4, 1), give(4),
         function(1), block(), call(1, 0, 0, 0), say(1), call(2, 0, 1, 0), give(2)]
SEVEN_CALLS = [function(0), block()] + [call(0, 0)] * 7


def refuse_change(self, *told, **named):
    raise AssertionError("what was handed in is changed")


WATCHED = type("Watched", (list,), {name: refuse_change for name in CHANGES})


def some_number(chance, kind):
    if kind == 0:
        return chance.choice((0, 4, 5))
    if kind >= 10:
        return chance.choice((0, 0, 1, 1, 1, 2, 9, 20, 1000, 1001, GREATEST))
    return chance.choice((0, 1, 2, 3, 4, 5, 6, 8, 9, 10, 11, 22, 23, 24, GREATEST))


def some_call(chance):
    """Mostly calls that are let, so that a line comes far; the others are off by some number."""
    if chance.random() < 0.6:
        return chance.choice((
            function(2), block(1, 2), block(), num(3, 9), two(1, 9, 2, 3), say(1), call(3, 1, 2), call(0, 0),
            call(4, 4, 4), jump(1, 2), fork(1, 1, 2, 1, 4), give(3), shows(), run(1, 50, 3), counts(0, 50, 3, 4),
            putin(1, 0, 0), choose(999, 1, 50, 3), runchosen(999, 1, 50, 3), whole(999, 1, 50, 3),
        ))
    kind = chance.randrange(16)
    made = [kind] + [some_number(chance, kind) for at in range(WHOLES[kind])]
    if kind in LIST_MOST:
        many = chance.choice((1, 2, chance.randrange(LIST_MOST[kind] + 1)))
        made += [many] + [chance.choice((0, 5, 23, 23, 24)) for at in range(many)]
    return made


def some_line(seed):
    chance = random.Random(seed)
    start = chance.choice(([function(0)], SOUND, SOUND, SEVEN_CALLS))
    return start + [some_call(chance) for at in range(chance.randint(0, 40 - len(start)))]


def is_let(told):
    return isinstance(told, list) or told >= 0


class InterfaceTest(unittest.TestCase):
    def test_each_answer_stands_behind_its_count(self):
        self.assertEqual({asked[0] for asked, told in CALLS_AND_ANSWERS}, set(range(16)))
        self.assertEqual(answers(LINE), TOLD)

    def test_one_call(self):
        self.assertEqual(answers([0, 4]), [1, 0])
        self.assertEqual(answers([0, 5]), [1, -1])
        self.assertEqual(answers([1, 0]), [1, -3])
        self.assertEqual(answers([7, 0, 0, 0, 0, 12] + [0] * 12), [1, -3])
        self.assertEqual(answers([8, 0]), [1, -3])
        self.assertEqual(answers([9]), [2, 0, 0])
        for kind in (10, 11, 13, 14, 15):
            self.assertEqual(answers([kind] + [0] * WHOLES[kind] + [0]), [1, -6])
        self.assertEqual(answers([12, 0, 0, 0]), [1, -6])

    def test_lists_are_read_by_their_lengths(self):
        # Read by another length, what stands in these lists would pass for calls.
        line = function(0) + block(0, 0, 0) + call(0, 0, 2, 2) + jump(1, 4, 4, 4) + block() + fork(0, 1, 1, 0, 0, 0)
        self.assertEqual(answers(line), [1, 0, 1, 0, 1, 1, 1, 1, 1, 1, 1, 2])

    def test_refused_lists_are_read_whole(self):
        for kind in LIST_MOST:
            for many in range(LIST_MOST[kind] + 1):
                line = [kind] + [1] * WHOLES[kind] + [many] + [0] * many + function(0)
                self.assertEqual(answers(line), [1, -3 if kind < 10 else -6, 1, 0])

    def test_longest_line(self):
        line = fork(0, 1, 1, 0, *[GREATEST] * 12) * 40
        self.assertEqual(len(line), 720)
        self.assertEqual(answers(line), [1, -3] * 40)
        line = function(0) + block() + line[:38 * 18]
        self.assertEqual(answers(line), [1, 0, 1, 0] + [1, -1] * 38)

    def test_gives_a_list_of_whole_numbers(self):
        told = answers(LINE)
        self.assertIs(type(told), list)
        self.assertEqual({type(number) for number in told}, {int})

    def test_what_is_handed_in_stays(self):
        handed_in = WATCHED(LINE)
        self.assertEqual(answers(handed_in), TOLD)
        self.assertEqual(list(handed_in), LINE)

    def test_a_second_time_answers_as_the_first(self):
        first = answers(LINE)
        answers(function(4) + block(1) + num(1))
        answers(flat(SOUND, whole(999, 1, 99, 5)))
        self.assertEqual(answers(LINE), first)
        self.assertEqual(answers([9]), [2, 0, 0])

    def test_an_answer_changed_by_its_taker_changes_no_other(self):
        answers(LINE).append(5)
        self.assertEqual(answers(LINE), TOLD)


class RefusedTest(unittest.TestCase):
    def test_lines_without_their_refused_calls_answer_the_same(self):
        seen = set()
        for seed in range(2000):
            line = some_line(seed)
            told = lines.ask(*line)
            let = [one for one, answer in zip(line, told) if is_let(answer)]
            self.assertEqual(lines.ask(*let), [answer for answer in told if is_let(answer)], line)
            seen.update((one[0], 0 if is_let(answer) else answer) for one, answer in zip(line, told))
        self.assertEqual(seen, {
            (0, 0), (0, -1), (0, -3), (1, 0), (1, -1), (1, -2), (1, -3), (2, 0), (2, -1), (2, -2), (2, -3),
            (3, 0), (3, -1), (3, -2), (3, -3), (3, -4), (4, 0), (4, -1), (4, -2), (4, -3),
            (5, 0), (5, -1), (5, -2), (5, -3), (5, -4), (5, -5), (6, 0), (6, -1), (6, -2), (6, -3),
            (7, 0), (7, -1), (7, -2), (7, -3), (8, 0), (8, -2), (8, -3), (9, 0),
            (10, 0), (10, -1), (10, -2), (10, -5), (10, -6), (11, 0), (11, -1), (11, -2), (11, -5), (11, -6),
            (12, 0), (12, -2), (12, -6), (13, 0), (13, -1), (13, -2), (13, -5), (13, -6), (13, -8),
            (14, 0), (14, -1), (14, -2), (14, -5), (14, -6), (14, -8),
            (15, 0), (15, -1), (15, -2), (15, -5), (15, -6), (15, -8),
        })

    def test_lines_without_what_only_asks_answer_the_same(self):
        for seed in range(500):
            line = some_line(seed)
            told = lines.ask(*line)
            telling = [one for one in line if one[0] < 9] + [shows()]
            expected = [answer for one, answer in zip(line, told) if one[0] < 9]
            self.assertEqual(lines.ask(*telling)[:-1], expected, line)
            if len(line) < 40:
                self.assertEqual(lines.ask(*telling)[-1], lines.ask(*line, shows())[-1], line)

    def test_what_comes_later_does_not_change_an_answer(self):
        for seed in range(300):
            line = some_line(seed)
            told = lines.ask(*line)
            half = (len(line) + 1) // 2
            self.assertEqual(lines.ask(*line[:half]), told[:half], line)


if __name__ == "__main__":
    unittest.main()
