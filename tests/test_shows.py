"""shows: the program as it was told, in numbers, and the open block."""

import unittest

from lines import GREATEST, LineTest, ask, block, call, fork, flat, function, give, jump, num, say, shows, two

NO_BLOCK_OPEN = 0
ONE_OPEN = 1
ROWS = [num(1, GREATEST), two(2, 10, 3, 4), say(5), call(6, 4, 7, 8, 7), call(9, 0)]
ROWS_SHOWN = [[0, 1, GREATEST], [2, 2, 10, 3, 4], [3, 5], [4, 6, 4, 3, 7, 8, 7], [4, 9, 0, 0]]


class ShowsTest(LineTest):
    def shown(self, before, *expected):
        self.accepts(before, shows(), flat(*expected))
        self.leaves(before, shows())

    def test_no_function(self):
        self.shown([], 0, NO_BLOCK_OPEN)

    def test_functions_without_blocks(self):
        self.shown([function(4)], 1, [4, 0], NO_BLOCK_OPEN)
        self.shown([function(k) for k in (3, 0, 4, 1, 2)], 5, [3, 0], [0, 0], [4, 0], [1, 0], [2, 0], NO_BLOCK_OPEN)

    def test_open_block_without_rows(self):
        self.shown([function(2), block()], 1, [2, 0], ONE_OPEN, 0, 0)
        self.shown([function(2), block(3, 1, 3, 23)], 1, [2, 0], ONE_OPEN, [4, 3, 1, 3, 23], 0)

    def test_open_block_with_rows_of_each_form(self):
        for row, numbers in zip(ROWS, ROWS_SHOWN):
            self.shown([function(0), block(), row], 1, [0, 0], ONE_OPEN, 0, 1, numbers)
        self.shown([function(3), block(2), *ROWS], 1, [3, 0], ONE_OPEN, [1, 2], 5, ROWS_SHOWN)

    def test_rows_stand_in_the_order_in_which_they_were_told(self):
        rows = [say(at) for at in (7, 3, 3, 0, 23, 1, 2, 9)]
        self.shown([function(0), block(), *rows], 1, [0, 0], ONE_OPEN, 0,
                   8, [[3, at] for at in (7, 3, 3, 0, 23, 1, 2, 9)])

    def test_each_form_of_end(self):
        for end, numbers in ((jump(5), [0, 5, 0]), (jump(1, 4, 3, 4, 1), [0, 1, 4, 4, 3, 4, 1]),
                             (fork(9, 2, 5, 0), [1, 9, 2, 0, 5, 0]),
                             (fork(9, 2, 5, 1, 7, 8, 6), [1, 9, 2, 1, 7, 5, 2, 8, 6]),
                             (give(0), [2, 0]), (give(23), [2, 23])):
            self.shown([function(1), block(), end], 1, [1, 1, [0, 0, numbers]], NO_BLOCK_OPEN)
            self.shown([function(1), block(6, 5), *ROWS, end],
                       1, [1, 1, [2, 6, 5, 5, ROWS_SHOWN, numbers]], NO_BLOCK_OPEN)

    def test_fork_parts_what_it_hands_over(self):
        handed = [1, 2, 3, 4, 5, 6, 7, 8]
        for many in range(9):
            for n in range(many + 1):
                end = [1, 9, 1, n, handed[:n], 5, many - n, handed[n:many]]
                self.shown([function(0), block(), fork(9, 1, 5, n, *handed[:many])],
                           1, [0, 1, 0, 0, end], NO_BLOCK_OPEN)

    def test_ended_blocks_and_an_open_one(self):
        before = [function(3), block(), num(1, 2), jump(1, 1), block(4), give(4),
                  function(1), block(), give(0), block(9)]
        first = [3, 2, [0, 1, [0, 1, 2], [0, 1, 1, 1]], [1, 4, 0, [2, 4]]]
        second = [1, 1, [0, 0, [2, 0]]]
        self.shown(before, 2, first, second, ONE_OPEN, [1, 9], 0)
        self.shown(before[:-1], 2, first, second, NO_BLOCK_OPEN)
        self.shown(before + [say(2)], 2, first, second, ONE_OPEN, [1, 9], 1, [3, 2])
        self.shown(before + [give(2)], 2, first, [1, 2, [0, 0, [2, 0]], [1, 9, 0, [2, 2]]], NO_BLOCK_OPEN)

    def test_refused_calls_are_not_shown(self):
        before = [function(0), function(5), block(24), block(1), function(0), num(24, 0), two(0, 11, 0, 0), say(24),
                  call(0, 5), jump(0), fork(0, 1, 1, 2, 0), give(24), block()]
        self.shown(before, 1, [0, 0], ONE_OPEN, [1, 1], 0)

    def test_a_second_time_shows_the_same(self):
        told = ask(function(3), block(2), *ROWS, shows(), shows(), give(1), shows(), shows())
        self.assertEqual(told[-5], told[-4])
        self.assertEqual(told[-2], told[-1])


if __name__ == "__main__":
    unittest.main()
