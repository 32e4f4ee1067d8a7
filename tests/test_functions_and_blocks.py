"""Promise 1: function and block."""

import unittest

from lines import GREATEST, LineTest, ask, block, call, fork, function, jump, num

FIVE_FUNCTIONS = [function(0)] * 5
SIX_BLOCKS = [function(0)] + [block(), jump(1)] * 6


class FunctionTest(LineTest):
    def test_answers_its_number(self):
        self.assertEqual(ask(*FIVE_FUNCTIONS), [0, 1, 2, 3, 4])

    def test_every_k_up_to_4(self):
        for k in range(5):
            self.accepts([], function(k), 0)

    def test_k_above_4(self):
        for k in (5, 6, 24, GREATEST):
            self.refuses([], function(k), -1)
            self.refuses([function(4)], function(k), -1)

    def test_a_sixth_function(self):
        self.accepts(FIVE_FUNCTIONS[1:], function(4), 4)
        self.refuses(FIVE_FUNCTIONS, function(0), -1)
        self.refuses(FIVE_FUNCTIONS, function(5), -1)

    def test_while_a_block_is_open(self):
        self.refuses([function(0), block()], function(0), -3)
        self.refuses([function(0), block(), num(1)], function(4), -3)
        self.accepts([function(0), block(), jump(1)], function(0), 1)

    def test_open_block_is_told_ahead_of_k_and_of_a_sixth(self):
        self.refuses([function(0), block()], function(5), -3)
        self.refuses(FIVE_FUNCTIONS + [block()], function(0), -3)
        self.refuses(FIVE_FUNCTIONS + [block()], function(5), -3)

    def test_refused_one_does_not_take_the_blocks(self):
        before = [function(0), block(), jump(1), block(), jump(1)]
        self.accepts(before + [function(5)], block(), 2)


class BlockTest(LineTest):
    def test_answers_its_number_within_the_newest_function(self):
        told = ask(function(0), block(), jump(1), block(), jump(1), function(0), block(), jump(2), block())
        self.assertEqual(told, [0, 0, 1, 1, 2, 1, 0, 1, 1])

    def test_takes_over_none_to_4(self):
        for taken in ((), (0,), (0, 1), (3, 2, 1), (20, 21, 22, 23)):
            self.accepts([function(0)], block(*taken), 0)

    def test_a_name_may_stand_twice(self):
        self.accepts([function(0)], block(7, 7, 7, 7), 0)

    def test_takes_over_more_than_4(self):
        for many in (5, 6, 7, 8):
            self.refuses([function(0)], block(*range(many)), -1)

    def test_name_above_23(self):
        self.accepts([function(0)], block(23), 0)
        for name in (24, 25, GREATEST):
            for taken in ((name,), (name, 0), (0, name), (0, 1, 2, name), (name, 1, 2, 3)):
                self.refuses([function(0)], block(*taken), -2)

    def test_a_seventh_block(self):
        self.accepts(SIX_BLOCKS[:-2], block(), 5)
        self.refuses(SIX_BLOCKS, block(), -1)
        self.accepts(SIX_BLOCKS + [function(0)], block(), 0)

    def test_six_blocks_whatever_their_ends(self):
        before = [function(0)] + [block(), fork(0, 1, 2, 0)] * 6
        self.refuses(before, block(), -1)

    def test_while_one_is_open(self):
        self.refuses([function(0), block()], block(), -3)
        self.refuses([function(0), block(1), num(1), call(0, 0)], block(1), -3)

    def test_without_a_function(self):
        self.refuses([], block(), -3)
        self.refuses([function(5)], block(1), -3)

    def test_no_place_for_it_is_told_first(self):
        for before in ([], [function(0), block()]):
            self.refuses(before, block(24), -3)
            self.refuses(before, block(0, 1, 2, 3, 4), -3)
            self.refuses(before, block(0, 1, 2, 3, 24), -3)
        self.refuses(SIX_BLOCKS[:-1], block(), -3)

    def test_name_is_told_ahead_of_too_many(self):
        self.refuses([function(0)], block(0, 1, 2, 3, 24), -2)
        self.refuses([function(0)], block(24, 1, 2, 3, 4), -2)
        self.refuses([function(0)], block(0, 1, 2, 3, 4, 5, 6, 24), -2)
        self.refuses(SIX_BLOCKS, block(24), -2)
        self.refuses(SIX_BLOCKS, block(0, 1, 2, 3, 24), -2)


if __name__ == "__main__":
    unittest.main()
