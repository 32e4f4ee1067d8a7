"""The interface: how calls and answers stand in their lists, and that nothing is changed or kept."""

import random
import unittest

import lines
from lines import GREATEST, LIST_MOST, block, call, fork, function, jump, num, say, two
from putcalls.shop import answers

LINE = [
    *function(2), *block(), *num(2, 7), *two(3, 10, 0, 2), *call(4, 0, 3, 1), *fork(4, 1, 2, 1, 3, 4),
    *block(5), *say(5), *say(24), *jump(2, 5), *jump(2, 5), *block(6, 7), *function(0), *num(1, GREATEST),
]
TOLD = [1, 0, 1, 0, 1, 1, 1, 2, 1, 3, 1, 1, 1, 1, 1, 1, 1, -2, 1, 2, 1, -3, 1, 2, 1, -3, 1, 1]
CHANGES = ("append", "clear", "extend", "insert", "pop", "remove", "reverse", "sort",
           "__setitem__", "__delitem__", "__iadd__", "__imul__")


def refuse_change(self, *told, **named):
    raise AssertionError("what was handed in is changed")


WATCHED = type("Watched", (list,), {name: refuse_change for name in CHANGES})


def some_number(chance, kind):
    return chance.choice((0, 1, 2, 3, 4, 5, 6, 8, 9, 10, 11, 22, 23, 24, GREATEST) if kind else (0, 4, 5))


def some_call(chance):
    """Mostly calls that are let, so that a line comes far; the others are off by some number."""
    if chance.random() < 0.7:
        return chance.choice((
            function(2), block(1, 2), block(), num(3, 9), two(1, 9, 2, 3), say(1), call(3, 1, 2), call(0, 0),
            call(4, 4, 4), jump(1, 2), fork(1, 1, 2, 1, 4),
        ))
    kind = chance.randrange(8)
    wholes = (1, 0, 2, 4, 1, 2, 1, 4)[kind]
    made = [kind] + [some_number(chance, kind) for at in range(wholes)]
    if kind in LIST_MOST:
        many = chance.randrange(LIST_MOST[kind] + 1)
        made += [many] + [chance.choice((0, 5, 23, 23, 24)) for at in range(many)]
    return made


def some_line(seed):
    chance = random.Random(seed)
    return [function(0)] + [some_call(chance) for at in range(chance.randint(0, 39))]


class InterfaceTest(unittest.TestCase):
    def test_each_answer_stands_behind_its_count(self):
        self.assertEqual(answers(LINE), TOLD)

    def test_one_call(self):
        self.assertEqual(answers([0, 4]), [1, 0])
        self.assertEqual(answers([0, 5]), [1, -1])
        self.assertEqual(answers([1, 0]), [1, -3])
        self.assertEqual(answers([7, 0, 0, 0, 0, 12] + [0] * 12), [1, -3])

    def test_lists_are_read_by_their_lengths(self):
        # Read by another length, what stands in these lists would pass for calls.
        line = function(0) + block(0, 0, 0) + call(0, 0, 2, 2) + jump(1, 4, 4, 4) + block() + fork(0, 1, 1, 0, 0, 0)
        self.assertEqual(answers(line), [1, 0, 1, 0, 1, 1, 1, 1, 1, 1, 1, 2])

    def test_refused_lists_are_read_whole(self):
        longest = [[1, 8], [5, 0, 0, 8], [6, 1, 8], [7, 0, 1, 1, 0, 12]]
        for head in longest:
            line = head + [0] * head[-1] + function(0)
            self.assertEqual(answers(line), [1, -3, 1, 0])

    def test_longest_line(self):
        line = fork(0, 1, 1, 0, *[GREATEST] * 12) * 40
        self.assertEqual(len(line), 720)
        self.assertEqual(answers(line), [1, -3] * 40)
        line = function(0) + block() + line[:38 * 18]
        self.assertEqual(answers(line), [1, 0, 1, 0] + [1, -1] * 38)

    def test_gives_a_list_of_whole_numbers(self):
        told = answers(LINE)
        self.assertIs(type(told), list)
        self.assertEqual({type(number) for number in told}, {int})

    def test_what_is_handed_in_stays(self):
        handed_in = WATCHED(LINE)
        self.assertEqual(answers(handed_in), TOLD)
        self.assertEqual(list(handed_in), LINE)

    def test_a_second_time_answers_as_the_first(self):
        first = answers(LINE)
        answers(function(4) + block(1) + num(1))
        self.assertEqual(answers(LINE), first)

    def test_an_answer_changed_by_its_taker_changes_no_other(self):
        answers(LINE).append(5)
        self.assertEqual(answers(LINE), TOLD)


class RefusedTest(unittest.TestCase):
    def test_lines_without_their_refused_calls_answer_the_same(self):
        seen = set()
        for seed in range(2000):
            line = some_line(seed)
            told = lines.ask(*line)
            let = [one for one, number in zip(line, told) if number >= 0]
            if let:
                self.assertEqual(lines.ask(*let), [number for number in told if number >= 0], line)
            seen.update((one[0], min(number, 0)) for one, number in zip(line, told))
        self.assertEqual(seen, {
            (0, 0), (0, -1), (0, -3), (1, 0), (1, -1), (1, -2), (1, -3), (2, 0), (2, -1), (2, -2), (2, -3),
            (3, 0), (3, -1), (3, -2), (3, -3), (3, -4), (4, 0), (4, -1), (4, -2), (4, -3),
            (5, 0), (5, -1), (5, -2), (5, -3), (5, -4), (5, -5), (6, 0), (6, -1), (6, -2), (6, -3),
            (7, 0), (7, -1), (7, -2), (7, -3),
        })

    def test_what_comes_later_does_not_change_an_answer(self):
        for seed in range(300):
            line = some_line(seed)
            told = lines.ask(*line)
            half = (len(line) + 1) // 2
            self.assertEqual(lines.ask(*line[:half]), told[:half], line)


if __name__ == "__main__":
    unittest.main()
