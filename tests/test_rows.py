"""Promise 2: num, two, say and call."""

import unittest

from lines import GREATEST, LineTest, ask, block, call, fork, function, jump, num, say, two

OPENED = [function(0), block()]
EIGHT_ROWS = OPENED + [num(0)] * 8
EIGHT_CALLS = OPENED + [call(0, 0)] * 4 + [jump(1), block()] + [call(0, 0)] * 4 + [jump(1), block()]
CLOSED = ([], [function(0)], [function(0), block(), jump(1)], [function(0), block(), num(1), fork(0, 1, 1, 0)])
TOO_GREAT = (24, 25, GREATEST)


class RowTest(LineTest):
    def test_answer_counts_the_rows_of_the_open_block(self):
        told = ask(*OPENED, num(0, 5), two(1, 0, 0, 0), say(1), call(2, 0), num(23, GREATEST), jump(1),
                   block(), say(0), say(1), fork(0, 1, 1, 0), function(1), block(), call(0, 4, 1))
        self.assertEqual(told, [0, 0, 1, 2, 3, 4, 5, 1, 1, 1, 2, 2, 1, 0, 1])

    def test_no_block_open(self):
        for before in CLOSED:
            for row in (num(0), two(0, 0, 0, 0), say(0), call(0, 0)):
                self.refuses(before, row, -3)

    def test_no_block_open_is_told_first(self):
        for before in CLOSED:
            for row in (num(24), two(0, 11, 0, 0), two(24, 0, 0, 0), two(24, 11, 0, 0), say(24),
                        call(0, 5), call(0, 0, 0, 1, 2, 3, 4), call(24, 0), call(24, 5, 24)):
                self.refuses(before, row, -3)
        self.refuses(EIGHT_CALLS[:-1], call(0, 0), -3)
        self.refuses(EIGHT_CALLS[:-1], call(24, 5), -3)
        self.refuses(EIGHT_ROWS + [jump(1)], num(0), -3)

    def test_eight_rows(self):
        for row in (num(0), two(0, 0, 0, 0), say(0), call(0, 0)):
            self.accepts(EIGHT_ROWS[:-1], row, 8)
            self.refuses(EIGHT_ROWS, row, -1)
            self.refuses(OPENED + [row] * 8, say(0), -1)
            self.accepts(EIGHT_ROWS + [jump(1), block()], row, 1)

    def test_name_is_told_ahead_of_eight_rows(self):
        for row in (num(24), two(24, 0, 0, 0), two(0, 0, 24, 0), two(0, 0, 0, 24), say(24),
                    call(24, 0), call(0, 0, 24)):
            self.refuses(EIGHT_ROWS, row, -2)


class NumTest(LineTest):
    def test_any_number_and_names_up_to_23(self):
        for n in (0, 1, 24, GREATEST):
            self.accepts(OPENED, num(0, n), 1)
            self.accepts(OPENED, num(23, n), 1)

    def test_name_above_23(self):
        for name in TOO_GREAT:
            self.refuses(OPENED, num(name, 3), -2)


class TwoTest(LineTest):
    def test_every_operation(self):
        for o in range(11):
            self.accepts(OPENED, two(0, o, 1, 2), 1)
            self.accepts(OPENED, two(23, o, 23, 23), 1)

    def test_no_such_operation(self):
        for o in (11, 12, 24, GREATEST):
            self.refuses(OPENED, two(0, o, 1, 2), -4)

    def test_name_above_23(self):
        for name in TOO_GREAT:
            for names in ((name, 0, 0), (0, name, 0), (0, 0, name), (name, name, name)):
                self.refuses(OPENED, two(names[0], 10, names[1], names[2]), -2)

    def test_operation_is_told_ahead_of_name_and_eight_rows(self):
        self.refuses(OPENED, two(24, 11, 0, 0), -4)
        self.refuses(OPENED, two(0, 11, 24, 0), -4)
        self.refuses(OPENED, two(0, 11, 0, 24), -4)
        self.refuses(EIGHT_ROWS, two(0, 11, 0, 0), -4)
        self.refuses(EIGHT_ROWS, two(24, 11, 24, 24), -4)

    def test_operation_does_not_count_eight_calls(self):
        self.accepts(EIGHT_CALLS, two(0, 10, 0, 0), 1)


class SayTest(LineTest):
    def test_names_up_to_23(self):
        self.accepts(OPENED, say(0), 1)
        self.accepts(OPENED, say(23), 1)

    def test_name_above_23(self):
        for name in TOO_GREAT:
            self.refuses(OPENED, say(name), -2)


class CallTest(LineTest):
    def test_any_function_up_to_4_whether_it_is_there_or_not(self):
        for g in range(5):
            self.accepts(OPENED, call(0, g), 1)
            self.accepts(OPENED, call(23, g, 0, 1, 22, 23), 1)

    def test_hands_none_to_4(self):
        for many in range(5):
            self.accepts(OPENED, call(0, 0, *range(many)), 1)

    def test_a_name_may_stand_twice(self):
        self.accepts(OPENED, call(7, 0, 7, 7, 7, 7), 1)

    def test_function_above_4(self):
        for g in (5, 6, GREATEST):
            self.refuses(OPENED, call(0, g), -4)

    def test_hands_more_than_4(self):
        for many in (5, 6, 7, 8):
            self.refuses(OPENED, call(0, 4, *range(many)), -4)

    def test_name_above_23(self):
        for name in TOO_GREAT:
            self.refuses(OPENED, call(name, 0), -2)
            self.refuses(OPENED, call(name, 4, 0, 1, 2, 3), -2)
            for handed in ((name,), (name, 0, 0, 0), (0, name, 0, 0), (0, 0, 0, name)):
                self.refuses(OPENED, call(0, 0, *handed), -2)

    def test_eight_calls_in_several_blocks(self):
        self.assertEqual(ask(*EIGHT_CALLS)[-3:], [4, 2, 2])
        self.refuses(EIGHT_CALLS, call(0, 0), -5)
        self.refuses(EIGHT_CALLS, call(0, 4, 0, 1, 2, 3), -5)

    def test_eight_calls_in_several_functions(self):
        part = [function(0), block(), call(0, 0), num(0), call(0, 0), jump(1)]
        before = part * 3 + [function(0), block(), call(0, 0)]
        self.accepts(before, call(0, 0), 2)
        self.refuses(before + [call(0, 0)], call(0, 0), -5)

    def test_calls_of_the_open_block_count(self):
        before = OPENED + [call(0, 0)] * 3 + [jump(1), block()] + [call(0, 0)] * 4
        self.accepts(before, call(0, 0), 5)
        self.refuses(before + [call(0, 0)], call(0, 0), -5)

    def test_other_rows_do_not_count(self):
        others = [num(0), two(0, 4, 0, 0), say(0), num(4, 4)]
        before = OPENED + others + [jump(4), block()] + others + [fork(4, 1, 1, 0), block()] + others
        self.accepts(before, call(0, 0), 5)
        self.accepts(before + [call(0, 0)] * 3, call(0, 0), 8)

    def test_refused_calls_do_not_count(self):
        before = OPENED + [call(0, 0)] * 7
        self.accepts(before + [call(0, 5), call(24, 0), call(0, 0, 0, 0, 0, 0, 0)], call(0, 0), 8)

    def test_eight_calls_let_other_rows(self):
        for row in (num(0), two(0, 0, 0, 0), say(0)):
            self.accepts(EIGHT_CALLS, row, 1)

    def test_function_and_handed_are_told_ahead_of_all_but_no_block(self):
        for before in (OPENED, EIGHT_CALLS, EIGHT_ROWS, OPENED + [call(0, 0)] * 8):
            for row in (call(0, 5), call(0, 0, 0, 1, 2, 3, 4), call(24, 5), call(0, 5, 24),
                        call(24, 0, 0, 1, 2, 3, 4), call(0, 0, 0, 1, 2, 3, 24), call(24, 5, 0, 1, 2, 3, 24)):
                self.refuses(before, row, -4)

    def test_eight_calls_are_told_ahead_of_name_and_eight_rows(self):
        eight_in_one_block = OPENED + [call(0, 0)] * 8
        for row in (call(24, 0), call(0, 0, 24), call(24, 0, 24)):
            self.refuses(EIGHT_CALLS, row, -5)
            self.refuses(eight_in_one_block, row, -5)
        self.refuses(eight_in_one_block, call(0, 0), -5)


if __name__ == "__main__":
    unittest.main()
