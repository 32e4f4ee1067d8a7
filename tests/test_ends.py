"""Promise 3: jump, fork and give."""

import unittest

from lines import GREATEST, LineTest, ask, block, fork, function, give, jump, num

OPENED = [function(0), block()]
CLOSED = ([], [function(0)], [function(0), block(), jump(1)], [function(0), block(), fork(0, 1, 1, 0)],
          [function(0), block(), give(0)])
TOO_GREAT = (24, 25, GREATEST)
NO_TARGETS = (0, 6, 7, GREATEST)


class EndTest(LineTest):
    def test_answer_counts_the_blocks_of_the_function(self):
        told = ask(function(0), block(), jump(1), block(), num(0), fork(0, 1, 2, 0), block(), give(2),
                   function(0), block(), give(0), block(), jump(1), block(), fork(0, 1, 1, 0))
        self.assertEqual(told, [0, 0, 1, 1, 1, 2, 2, 3, 1, 0, 1, 1, 2, 2, 3])

    def test_six_blocks(self):
        told = ask(function(0), *([block(), jump(5)] * 2), *([block(), fork(0, 1, 5, 0)] * 2),
                   *([block(), give(0)] * 2))
        self.assertEqual(told, [0, 0, 1, 1, 2, 2, 3, 3, 4, 4, 5, 5, 6])

    def test_ends_the_block(self):
        for end in (jump(1), fork(0, 1, 1, 0), give(0)):
            self.accepts(OPENED + [end], num(0), -3)
            self.accepts(OPENED + [end], block(), 1)
            self.accepts(OPENED + [end], function(0), 1)

    def test_an_empty_block_and_a_full_one_may_end(self):
        for end in (jump(1), fork(0, 1, 1, 0), give(0)):
            self.accepts(OPENED, end, 1)
            self.accepts(OPENED + [num(0)] * 8, end, 1)

    def test_no_block_open(self):
        for before in CLOSED:
            self.refuses(before, jump(1), -3)
            self.refuses(before, fork(0, 1, 1, 0), -3)
            self.refuses(before, give(0), -3)

    def test_no_block_open_is_told_first(self):
        for before in CLOSED:
            for end in (jump(0), jump(6), jump(1, 24), jump(1, 0, 0, 0, 0, 0), jump(0, 0, 0, 0, 0, 24),
                        fork(24, 1, 1, 0), fork(0, 0, 1, 0), fork(0, 1, 6, 0), fork(0, 1, 1, 1),
                        fork(0, 1, 1, 0, *[0] * 9), fork(24, 0, 0, 9, 24), give(24), give(GREATEST)):
                self.refuses(before, end, -3)


class JumpTest(LineTest):
    def test_to_blocks_1_to_5_whether_they_are_there_or_not(self):
        for t in range(1, 6):
            self.accepts(OPENED, jump(t), 1)

    def test_no_other_block(self):
        for t in NO_TARGETS:
            self.refuses(OPENED, jump(t), -2)
            self.refuses(OPENED, jump(t, 0, 1, 2, 3), -2)

    def test_hands_over_none_to_4(self):
        for many in range(5):
            self.accepts(OPENED, jump(1, *range(many)), 1)
        self.accepts(OPENED, jump(5, 23, 23, 23, 23), 1)

    def test_hands_over_more_than_4(self):
        for many in (5, 6, 7, 8):
            self.refuses(OPENED, jump(1, *range(many)), -1)

    def test_name_above_23(self):
        for name in TOO_GREAT:
            for handed in ((name,), (name, 0, 0, 0), (0, name, 0, 0), (0, 0, 0, name)):
                self.refuses(OPENED, jump(1, *handed), -2)

    def test_too_many_is_told_ahead_of_name_and_block(self):
        self.refuses(OPENED, jump(1, 0, 0, 0, 0, 24), -1)
        self.refuses(OPENED, jump(1, 24, 0, 0, 0, 0), -1)
        self.refuses(OPENED, jump(0, 0, 0, 0, 0, 0), -1)
        self.refuses(OPENED, jump(6, 0, 0, 0, 0, 24), -1)


class ForkTest(LineTest):
    def test_to_blocks_1_to_5_whether_they_are_there_or_not(self):
        for t in range(1, 6):
            for u in range(1, 6):
                self.accepts(OPENED, fork(0, t, u, 0), 1)

    def test_no_other_block(self):
        for wrong in NO_TARGETS:
            self.refuses(OPENED, fork(0, wrong, 1, 0), -2)
            self.refuses(OPENED, fork(0, 1, wrong, 0), -2)
            self.refuses(OPENED, fork(0, wrong, wrong, 1, 5), -2)

    def test_hands_over_none_to_8_parted_anywhere(self):
        for many in range(9):
            for n in range(many + 1):
                self.accepts(OPENED, fork(23, 1, 5, n, *range(many)), 1)

    def test_fewer_than_n(self):
        for many in range(9):
            for n in (many + 1, many + 2, 24, GREATEST):
                self.refuses(OPENED, fork(0, 1, 1, n, *range(many)), -1)

    def test_more_than_8(self):
        for many in (9, 10, 11, 12):
            for n in (0, 4, 8, many, many + 1):
                self.refuses(OPENED, fork(0, 1, 1, n, *range(many)), -1)

    def test_name_above_23(self):
        for name in TOO_GREAT:
            self.refuses(OPENED, fork(name, 1, 1, 0), -2)
            for n in (0, 1, 2, 3):
                for handed in ((name, 0, 0), (0, name, 0), (0, 0, name)):
                    self.refuses(OPENED, fork(0, 1, 1, n, *handed), -2)
            self.refuses(OPENED, fork(0, 1, 1, 4, 0, 0, 0, 0, 0, 0, 0, name), -2)

    def test_wrong_count_is_told_ahead_of_name_and_block(self):
        for v, t, u in ((24, 1, 1), (0, 0, 1), (0, 6, 1), (0, 1, 0), (0, 1, 6), (24, 0, 6)):
            self.refuses(OPENED, fork(v, t, u, 1), -1)
            self.refuses(OPENED, fork(v, t, u, 0, *[0] * 9), -1)
        self.refuses(OPENED, fork(0, 1, 1, 2, 24), -1)
        self.refuses(OPENED, fork(0, 1, 1, 0, *[0] * 8, 24), -1)
        self.refuses(OPENED, fork(0, 1, 1, 13, *[24] * 12), -1)


class GiveTest(LineTest):
    def test_names_up_to_23(self):
        for name in (0, 1, 22, 23):
            self.accepts(OPENED, give(name), 1)
            self.accepts([function(4), block(), give(0), block(1), num(2)], give(name), 2)

    def test_name_above_23(self):
        for name in TOO_GREAT:
            self.refuses(OPENED, give(name), -2)
            self.refuses(OPENED + [num(0)] * 8, give(name), -2)


if __name__ == "__main__":
    unittest.main()
