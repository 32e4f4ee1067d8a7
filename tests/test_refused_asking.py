"""Promise 4: what run, counts, putin, choose, runchosen and whole refuse, in which order, and that all stays."""

import unittest

from lines import (
    GREATEST, LineTest, ask, block, call, choose, counts, fork, function, give, jump, num, putin, run, runchosen, say,
    shows, two, whole,
)

# Function 0 is handed nothing and calls itself; its size is 2.
SOUND = [function(0), block(), call(0, 0), give(0)]
# Function 0 is handed 2 words; 1 calls it, at block 1, row 1; the size is 1 + (2 + 4).
PAIR = [function(2), block(), give(1),
        function(1), block(), num(1, 7), jump(1, 1), block(2), say(2), call(0, 0, 0, 2), give(0)]
PAIR_SIZE = 7
ASKS = (run(0, 9), counts(0, 9), putin(0, 0, 0), choose(999, 0, 9), runchosen(999, 0, 9), whole(999, 0, 9))
RUNS = (run, counts)
LONG = (1, 0, 0, 0, 0, 0, 0, 0)


def chosen(size):
    return (lambda f, n, *words: choose(size, f, n, *words),
            lambda f, n, *words: runchosen(size, f, n, *words),
            lambda f, n, *words: whole(size, f, n, *words))


class UnsoundTest(LineTest):
    def unsound(self, *before):
        for asked in ASKS:
            self.refuses(list(before), asked, -6)

    def sound(self, *before):
        for asked in ASKS:
            if asked[0] != 12:
                self.assertIsInstance(self.last(list(before), asked), list, (before, asked))

    def test_sound_ones_are_not_refused(self):
        for asked in ASKS:
            self.assertIsInstance(self.last(SOUND, asked), list)

    def test_a_block_is_open(self):
        self.unsound(*SOUND, block())
        self.unsound(*SOUND, block(1, 2), say(1))
        self.sound(*SOUND, block(), give(0))

    def test_no_function(self):
        for asked in ASKS:
            self.refuses([], asked, -6)
            self.refuses([function(5)], asked, -6)

    def test_a_function_without_blocks(self):
        self.unsound(function(0))
        self.unsound(*SOUND, function(0))
        self.unsound(function(0), *SOUND)
        self.unsound(*SOUND, function(3), *SOUND)

    def test_an_end_leads_to_no_block(self):
        self.unsound(function(0), block(), call(0, 0), jump(1))
        self.unsound(*SOUND, block(), jump(5))
        self.unsound(*SOUND, block(), jump(2))
        self.sound(*SOUND, block(), jump(1))
        self.unsound(*SOUND, block(), fork(0, 1, 2, 0))
        self.unsound(*SOUND, block(), fork(0, 2, 1, 0))
        self.unsound(*SOUND, block(), fork(0, 5, 5, 0))
        self.sound(*SOUND, block(), fork(0, 1, 1, 0))
        self.sound(*SOUND, block(), fork(0, 2, 1, 0), block(), jump(1))

    def test_the_blocks_of_another_function_do_not_help(self):
        self.unsound(*SOUND, block(), give(0), function(0), block(), jump(1))
        self.unsound(function(0), block(), call(0, 0), jump(1), function(0), block(), give(0), block(), give(0))

    def test_an_end_hands_over_another_number(self):
        for taken in ((), (1,), (1, 1), (1, 2, 3), (4, 3, 2, 1)):
            for many in range(5):
                told = self.sound if many == len(taken) else self.unsound
                told(*SOUND, block(*taken), give(0), block(), jump(1, *range(many)))
                told(*SOUND, block(*taken), give(0), block(),
                     fork(0, 1, 1, many, *range(many), *taken))
                told(*SOUND, block(*taken), give(0), block(),
                     fork(0, 1, 1, len(taken), *taken, *range(many)))

    def test_each_way_of_a_fork_is_held_to_its_own_block(self):
        before = SOUND + [block(1), give(0), block(1, 2), give(0), block()]
        self.sound(*before, fork(0, 1, 2, 1, 3, 3, 3))
        self.sound(*before, fork(0, 2, 1, 2, 3, 3, 3))
        self.unsound(*before, fork(0, 1, 2, 2, 3, 3, 3))
        self.unsound(*before, fork(0, 2, 1, 1, 3, 3, 3))

    def test_a_block_that_leads_to_itself(self):
        self.sound(*SOUND, block(1, 2), jump(1, 2, 1))
        self.unsound(*SOUND, block(1, 2), jump(1, 2))

    def test_a_block_0_takes_something_over(self):
        self.unsound(function(0), block(1), call(0, 0), give(0))
        self.unsound(function(1), block(0), give(0))
        self.unsound(*SOUND, function(0), block(1, 2), give(0))
        self.sound(*SOUND, function(0), block(), give(0))
        self.sound(*SOUND, block(1), give(0))

    def test_a_call_of_no_function(self):
        self.unsound(function(0), block(), call(0, 1), give(0))
        self.unsound(function(0), block(), call(0, 4), give(0))
        self.sound(function(0), block(), call(0, 1), give(0), function(0), block(), give(0))
        self.unsound(*SOUND, block(), num(1), call(0, 0), call(0, 1), say(1), jump(1))

    def test_a_call_hands_another_number(self):
        for k in range(5):
            for many in range(5):
                told = self.sound if k == many else self.unsound
                told(*SOUND, function(k), block(), say(0), call(0, 1, *range(many)), give(0))
                told(*SOUND, block(), say(0), call(0, 1, *range(many)), give(0), function(k), block(), give(0))

    def test_sound_again_once_it_is_mended(self):
        told = ask(*SOUND, block(), shows(), *ASKS, jump(2), *ASKS, block(), give(0), *ASKS)
        self.assertEqual(told[6:12] + told[13:19], [-6] * 12)
        for answer in told[21:]:
            self.assertIsInstance(answer, list)


class PutinTest(LineTest):
    def test_where_the_call_stands(self):
        self.assertIsInstance(self.last(PAIR, putin(1, 1, 1)), list)
        self.leaves(PAIR, putin(1, 1, 1))

    def test_no_call_stands_there(self):
        for place in ((0, 0, 0), (1, 0, 0), (1, 0, 1), (1, 1, 0), (1, 1, 2), (1, 1, GREATEST), (1, 2, 1), (1, 2, 0),
                      (1, GREATEST, 1), (2, 1, 1), (2, 0, 0), (GREATEST, 1, 1), (GREATEST, GREATEST, GREATEST)):
            self.refuses(PAIR, putin(*place), -2)

    def test_rows_of_other_forms(self):
        # Each of these rows has the 4 of a call where its own numbers stand.
        before = [function(0), block(), num(4, 4), two(4, 4, 4, 4), say(4), give(4)]
        for r in range(4):
            self.refuses(before, putin(0, 0, r), -2)

    def test_unsound_is_told_ahead_of_no_call(self):
        for before in ([], PAIR + [block()], PAIR + [function(0)], [function(0), block(), jump(1)]):
            for place in ((0, 0, 0), (0, 0, 9), (5, 0, 0), (GREATEST, GREATEST, GREATEST)):
                self.refuses(before, putin(*place), -6)


class RunTest(LineTest):
    def refused(self, before, number, f, n, *words):
        for asked in RUNS + chosen(999) + chosen(0):
            self.refuses(before, asked(f, n, *words), number)

    def told(self, before, f, n, *words):
        for asked in RUNS + chosen(999):
            self.assertIsInstance(self.last(before, asked(f, n, *words)), list)
            self.leaves(before, asked(f, n, *words))

    def test_what_is_not_refused(self):
        self.told(PAIR, 0, 0, 5, 6)
        self.told(PAIR, 1, 1000, GREATEST)

    def test_no_function_f(self):
        for f in (2, 3, 5, GREATEST):
            self.refused(PAIR, -2, f, 9, 1)
            self.refused(PAIR, -2, f, 9, 1, 1)

    def test_too_many_steps(self):
        self.told(PAIR, 1, 1000, 1)
        for n in (1001, 1002, GREATEST):
            self.refused(PAIR, -1, 1, n, 1)
            self.refused(PAIR, -1, 0, n, 1, 2)

    def test_not_as_many_words(self):
        for many in range(9):
            for f, k in ((0, 2), (1, 1)):
                if many != k:
                    self.refused(PAIR, -5, f, 9, *LONG[:many])

    def test_unsound_is_told_first(self):
        for before in ([], [function(0)], PAIR + [block()], PAIR + [function(0)]):
            self.refused(before, -6, 9, 9)
            self.refused(before, -6, 9, 1001, *LONG)
            self.refused(before, -6, 0, 1001)
            self.refused(before, -6, 0, 9, *LONG)
            self.refused(before, -6, 0, 1000, 1, 2)

    def test_no_function_is_told_ahead_of_steps_and_words(self):
        self.refused(PAIR, -2, 2, 1001, 1)
        self.refused(PAIR, -2, 2, 1000, *LONG)
        self.refused(PAIR, -2, GREATEST, GREATEST, *LONG)

    def test_steps_are_told_ahead_of_words(self):
        self.refused(PAIR, -1, 1, 1001)
        self.refused(PAIR, -1, 1, GREATEST, *LONG)


class SizeTest(LineTest):
    def test_own_size_above_the_size(self):
        for size in (0, 1, PAIR_SIZE - 1):
            for asked in chosen(size):
                self.refuses(PAIR, asked(1, 9, 1), -8)
                self.refuses(PAIR, asked(0, 0, 1, 2), -8)

    def test_own_size_and_more_are_not_refused(self):
        for size in (PAIR_SIZE, PAIR_SIZE + 1, GREATEST):
            for asked in chosen(size):
                self.assertIsInstance(self.last(PAIR, asked(1, 9, 1)), list)
                self.leaves(PAIR, asked(1, 9, 1))

    def test_all_others_are_told_ahead_of_it(self):
        for asked in chosen(PAIR_SIZE - 1):
            self.refuses(PAIR + [block()], asked(1, 9, 1), -6)
            self.refuses(PAIR, asked(2, 9, 1), -2)
            self.refuses(PAIR, asked(1, 1001, 1), -1)
            self.refuses(PAIR, asked(1, 9), -5)


if __name__ == "__main__":
    unittest.main()
