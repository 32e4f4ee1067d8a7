"""putin: a function with one call put in, to the last name and block."""

import unittest

from lines import LineTest, ask, block, call, flat, fork, function, give, jump, num, putin, run, say, shows, two
from putcalls.build import add_block, add_function, add_jump
from putcalls.names import first_free_name
from putcalls.program import Program

# Function 0 is handed 1 word; its other names are 1 and 3 (2 is none of its).
DOUBLES = [function(1), block(), two(3, 0, 0, 0), say(1), give(3)]


def doubles_copy(d, c):
    """Its one block as it is put in: names above by d, block c behind it."""
    rows = [[0, 1 + d, 0], [0, 3 + d, 0], [2, 3 + d, 0, d, d], [3, 1 + d]]
    return [1, d, 4, rows, [0, c, 1, 3 + d]]


class PutinTest(LineTest):
    def makes(self, before, asked, *expected):
        self.accepts(before, asked, flat(*expected))
        self.leaves(before, asked)

    def test_a_middle_row(self):
        before = DOUBLES + [function(2), block(), num(2, 5), call(4, 0, 2), say(4), give(4)]
        self.makes(before, putin(1, 0, 1), 2, 3,
                   [0, 1, [0, 2, 5], [0, 1, 1, 2]],
                   doubles_copy(5, 2),
                   [1, 4, 1, [3, 4], [2, 4]])

    def test_the_first_row(self):
        before = DOUBLES + [function(2), block(), call(0, 0, 1), num(2, 5), say(0), give(2)]
        self.makes(before, putin(1, 0, 0), 2, 3,
                   [0, 0, [0, 1, 1, 1]],
                   doubles_copy(3, 2),
                   [1, 0, 2, [0, 2, 5], [3, 0], [2, 2]])

    def test_the_last_row(self):
        before = DOUBLES + [function(2), block(), num(2, 5), say(0), call(7, 0, 2), give(7)]
        self.makes(before, putin(1, 0, 2), 2, 3,
                   [0, 2, [0, 2, 5], [3, 0], [0, 1, 1, 2]],
                   doubles_copy(8, 2),
                   [1, 7, 0, [2, 7]])

    def test_the_only_row(self):
        before = DOUBLES + [function(0), block(), call(0, 0, 0), give(0)]
        self.makes(before, putin(1, 0, 0), 0, 3, [0, 0, [0, 1, 1, 0]], doubles_copy(1, 2), [1, 0, 0, [2, 0]])

    def test_a_block_that_takes_over_and_others_beside_it(self):
        before = DOUBLES + [function(1), block(), jump(1, 0, 0), block(1, 2), say(2), call(2, 0, 1), say(1), jump(2, 2),
                            block(5), fork(5, 1, 2, 2, 5, 5, 0)]
        self.makes(before, putin(1, 1, 1), 1, 5,
                   [0, 0, [0, 1, 2, 0, 0]],
                   [2, 1, 2, 1, [3, 2], [0, 3, 1, 1]],
                   [1, 5, 0, [1, 5, 1, 2, 5, 5, 2, 1, 0]],
                   doubles_copy(6, 4),
                   [1, 2, 1, [3, 1], [0, 2, 1, 2]])

    def test_the_block_behind_has_a_forks_end(self):
        before = DOUBLES + [function(1), block(), call(2, 0, 0), fork(2, 1, 1, 1, 0, 2), block(0), give(0)]
        self.makes(before, putin(1, 0, 0), 1, 4,
                   [0, 0, [0, 2, 1, 0]], [1, 0, 0, [2, 0]], doubles_copy(3, 3),
                   [1, 2, 0, [1, 2, 1, 1, 0, 1, 1, 2]])

    def test_greatest_name_wherever_it_stands(self):
        start = DOUBLES + [function(1)]
        for rest, d in (([block(), call(9, 0, 0), give(0)], 10),
                        ([block(), call(0, 0, 9), give(0)], 10),
                        ([block(), call(0, 0, 0), give(9)], 10),
                        ([block(), call(0, 0, 0), say(9), give(0)], 10),
                        ([block(), call(0, 0, 0), num(9, 99), give(0)], 10),
                        ([block(), call(0, 0, 0), num(1, 99), give(0)], 2),
                        ([block(), call(0, 0, 0), two(9, 10, 1, 1), give(0)], 10),
                        ([block(), call(0, 0, 0), two(1, 10, 9, 1), give(0)], 10),
                        ([block(), call(0, 0, 0), two(1, 10, 1, 9), give(0)], 10),
                        ([block(), call(0, 0, 0), two(1, 10, 1, 1), give(0)], 2),
                        ([block(), call(0, 0, 0), call(0, 0, 9), give(0)], 10),
                        ([block(), call(0, 0, 0), call(9, 0, 0), give(0)], 10),
                        ([block(), call(0, 0, 0), give(0), block(9), give(0)], 10),
                        ([block(), call(0, 0, 0), give(0), block(0), jump(1, 9)], 10),
                        ([block(), call(0, 0, 0), give(0), block(), jump(5), *[block(), give(0)] * 4], 1),
                        ([block(), call(0, 0, 0), give(0), block(0), fork(9, 1, 1, 1, 0, 0)], 10),
                        ([block(), call(0, 0, 0), give(0), block(0), fork(0, 1, 1, 1, 9, 0)], 10),
                        ([block(), call(0, 0, 0), give(0), block(0), fork(0, 1, 1, 1, 0, 9)], 10),
                        ([block(), call(0, 0, 0), give(0)], 1)):
            # The least name of the copy is d: it is the one that is taken over.
            told = self.last(start + rest, putin(1, 0, 0))
            blocks = len([one for one in rest if one[0] == 1])
            copy = flat(doubles_copy(d, blocks + 1))
            self.assertTrue(any(told[at:at + len(copy)] == copy for at in range(len(told))), (rest, told))

    def test_words_handed_are_names_though_they_stand_nowhere(self):
        before = [function(3), block(), give(0), function(4), block(), call(0, 0, 0, 0, 0), give(0)]
        self.makes(before, putin(1, 0, 0), 4, 3, [0, 0, [0, 1, 3, 0, 0, 0]], [3, 4, 5, 6, 0, [0, 2, 1, 4]],
                   [1, 0, 0, [2, 0]])

    def test_function_handed_0_words(self):
        before = [function(0), block(), num(2, 6), give(2), function(1), block(), call(0, 0), give(0)]
        self.makes(before, putin(1, 0, 0), 1, 3, [0, 0, [0, 1, 0]], [0, 2, [0, 3, 0], [0, 3, 6], [0, 2, 1, 3]],
                   [1, 0, 0, [2, 0]])

    def test_function_handed_4_words(self):
        before = [function(4), block(), two(4, 1, 0, 3), give(4),
                  function(2), block(), call(1, 0, 1, 0, 1, 1), give(1)]
        self.makes(before, putin(1, 0, 0), 2, 3, [0, 0, [0, 1, 4, 1, 0, 1, 1]],
                   [4, 2, 3, 4, 5, 2, [0, 6, 0], [2, 6, 1, 2, 5], [0, 2, 1, 6]],
                   [1, 1, 0, [2, 1]])

    def test_names_above_k_the_least_first_and_each_once(self):
        before = [function(1), block(), num(23, 1), num(7, 2), num(2, 3), say(7), say(23), jump(1, 5), block(9),
                  two(0, 0, 9, 2), give(11), function(0), block(), call(0, 0, 0), give(0)]
        zeros = [[0, name + 1, 0] for name in (2, 5, 7, 9, 11, 23)]
        self.makes(before, putin(1, 0, 0), 0, 4, [0, 0, [0, 1, 1, 0]],
                   [1, 1, 11, zeros, [0, 24, 1], [0, 8, 2], [0, 3, 3], [3, 8], [3, 24], [0, 2, 1, 6]],
                   [1, 10, 1, [2, 1, 0, 10, 3], [0, 3, 1, 12]],
                   [1, 0, 0, [2, 0]])

    def test_function_whose_names_all_are_handed(self):
        before = [function(2), block(), two(0, 0, 0, 1), give(0), function(0), block(), call(0, 0, 0, 0), give(0)]
        self.makes(before, putin(1, 0, 0), 0, 3, [0, 0, [0, 1, 2, 0, 0]],
                   [2, 1, 2, 1, [2, 1, 0, 1, 2], [0, 2, 1, 1]], [1, 0, 0, [2, 0]])

    def test_function_that_is_called_without_names(self):
        # It gives nothing: it goes round for ever.
        before = [function(0), block(), jump(1), block(), jump(1), function(0), block(), say(3), call(5, 0), give(2)]
        self.makes(before, putin(1, 0, 1), 0, 4, [0, 1, [3, 3], [0, 1, 0]], [0, 0, [0, 2, 0]], [0, 0, [0, 2, 0]],
                   [1, 5, 0, [2, 2]])

    def test_first_free_name_of_a_function_without_names(self):
        # A function with a call has a name, so no call's answer tells this.
        program = Program()
        add_function(program, 0)
        add_block(program, [])
        add_jump(program, 1, [])
        self.assertEqual(first_free_name(program.functions[0]), 0)

    def test_forks_and_several_gives(self):
        before = [function(2), block(), fork(0, 2, 1, 1, 1, 0, 1), block(2, 3), give(2), block(4),
                  fork(4, 3, 3, 0), block(), say(0), give(1),
                  function(0), block(), num(6, 1), call(6, 0, 6, 6), give(6)]
        self.makes(before, putin(1, 0, 1), 0, 6, [0, 1, [0, 6, 1], [0, 1, 2, 6, 6]],
                   [2, 7, 8, 3, [0, 9, 0], [0, 10, 0], [0, 11, 0], [1, 7, 3, 1, 8, 2, 2, 7, 8]],
                   [2, 9, 10, 0, [0, 5, 1, 9]],
                   [1, 11, 0, [1, 11, 4, 0, 4, 0]],
                   [0, 1, [3, 7], [0, 5, 1, 8]],
                   [1, 6, 0, [2, 6]])

    def test_calls_in_the_called_one_stay_calls(self):
        before = [function(1), block(), call(1, 1, 0), call(0, 0, 1), give(0),
                  function(1), block(), say(0), call(2, 0, 0), call(0, 1, 2), give(0)]
        self.makes(before, putin(1, 0, 1), 1, 3, [0, 1, [3, 0], [0, 1, 1, 0]],
                   [1, 3, 3, [0, 4, 0], [4, 4, 1, 1, 3], [4, 3, 0, 1, 4], [0, 2, 1, 3]],
                   [1, 2, 1, [4, 0, 1, 1, 2], [2, 0]])

    def test_a_call_of_the_function_itself(self):
        before = [function(1), block(), num(1, 1), fork(0, 1, 2, 0), block(), two(2, 1, 0, 1), call(3, 0, 2), say(3),
                  give(3), block(), give(1)]
        self.makes(before, putin(0, 1, 1), 1, 7,
                   [0, 1, [0, 1, 1], [1, 0, 1, 0, 2, 0]],
                   [0, 1, [2, 2, 1, 0, 1], [0, 3, 1, 2]],
                   [0, 0, [2, 1]],
                   [1, 4, 4, [0, 5, 0], [0, 6, 0], [0, 7, 0], [0, 5, 1], [1, 4, 4, 0, 5, 0]],
                   [0, 3, [2, 6, 1, 4, 5], [4, 7, 0, 1, 6], [3, 7], [0, 6, 1, 7]],
                   [0, 0, [0, 6, 1, 5]],
                   [1, 3, 1, [3, 3], [2, 3]])

    def test_a_call_of_a_function_with_a_greater_number(self):
        before = [function(0), block(), call(2, 1, 3), give(2)] + [function(1), block(), say(0), give(0)]
        self.makes(before, putin(0, 0, 0), 0, 3, [0, 0, [0, 1, 1, 3]], [1, 4, 1, [3, 4], [0, 2, 1, 4]],
                   [1, 2, 0, [2, 2]])

    def test_the_program_stays(self):
        before = DOUBLES + [function(0), block(), call(0, 0, 0), call(1, 0, 0), give(0)]
        told = ask(*before, shows(), run(1, 99), putin(1, 0, 1), putin(1, 0, 0), putin(1, 0, 1), shows(), run(1, 99))
        self.assertEqual(told[-7:-5], told[-2:])
        self.assertEqual(told[-5], told[-3])
        self.assertNotEqual(told[-5], told[-4])


if __name__ == "__main__":
    unittest.main()
