"""What the calls put into the program: rows and ends as told, and nothing by a refused call."""

import unittest

from lines import GREATEST
from putcalls.build import add_block, add_call, add_fork, add_function, add_jump, add_num, add_say, add_two
from putcalls.program import Program, calls_standing


def kept_block(block):
    return (tuple(block.taken), tuple(block.rows), block.ending)


def kept(program):
    functions = [(function.handed, [kept_block(one) for one in function.blocks]) for function in program.functions]
    return (functions, None if program.unended is None else kept_block(program.unended))


def opened(taken=()):
    program = Program()
    add_function(program, 3)
    add_block(program, list(taken))
    return program


class KeptTest(unittest.TestCase):
    def test_new_program_has_no_function(self):
        self.assertEqual(kept(Program()), ([], None))

    def test_function_has_no_blocks(self):
        program = Program()
        add_function(program, 4)
        add_function(program, 0)
        self.assertEqual(kept(program), ([(4, []), (0, [])], None))

    def test_open_block_has_no_rows(self):
        self.assertEqual(kept(opened([3, 1, 3])), ([(3, [])], ((3, 1, 3), (), None)))

    def test_rows_stand_in_order(self):
        program = opened()
        add_num(program, 1, GREATEST)
        add_two(program, 2, 10, 3, 4)
        add_say(program, 5)
        add_call(program, 6, 4, [7, 8, 7])
        add_call(program, 9, 0, [])
        rows = ((0, 1, GREATEST), (2, 2, 10, 3, 4), (3, 5), (4, 6, 4, (7, 8, 7)), (4, 9, 0, ()))
        self.assertEqual(kept(program), ([(3, [])], ((), rows, None)))
        self.assertEqual(calls_standing(program), 2)

    def test_jump(self):
        program = opened([2])
        add_say(program, 2)
        add_jump(program, 5, [4, 3, 4, 1])
        self.assertEqual(kept(program), ([(3, [((2,), ((3, 2),), (0, 5, (4, 3, 4, 1)))])], None))

    def test_fork_parts_what_it_hands_over(self):
        handed = [1, 2, 3, 4, 5, 6, 7, 8]
        for n in range(9):
            program = opened()
            add_fork(program, 9, 1, 5, n, handed)
            end = (1, 9, 1, tuple(handed[:n]), 5, tuple(handed[n:]))
            self.assertEqual(kept(program), ([(3, [((), (), end)])], None))

    def test_blocks_go_to_the_newest_function(self):
        program = opened()
        add_jump(program, 1, [])
        add_function(program, 1)
        add_block(program, [0])
        add_jump(program, 2, [])
        self.assertEqual(kept(program), ([(3, [((), (), (0, 1, ()))]), (1, [((0,), (), (0, 2, ()))])], None))

    def test_lists_are_copied(self):
        told = [1, 2]
        program = opened(told)
        add_call(program, 0, 0, told)
        add_jump(program, 1, told)
        before = kept(program)
        told.append(3)
        self.assertEqual(kept(program), before)
        self.assertEqual(told, [1, 2, 3])


class RefusedTest(unittest.TestCase):
    def leaves(self, program, number, told):
        before = kept(program)
        self.assertEqual(told(program), number)
        self.assertEqual(kept(program), before)

    def test_with_an_open_block(self):
        program = opened([1])
        add_say(program, 1)
        self.leaves(program, -3, lambda p: add_function(p, 1))
        self.leaves(program, -3, lambda p: add_block(p, [2]))
        self.leaves(program, -2, lambda p: add_num(p, 24, 1))
        self.leaves(program, -4, lambda p: add_two(p, 1, 11, 1, 1))
        self.leaves(program, -2, lambda p: add_two(p, 1, 1, 24, 1))
        self.leaves(program, -2, lambda p: add_say(p, 24))
        self.leaves(program, -4, lambda p: add_call(p, 1, 5, []))
        self.leaves(program, -2, lambda p: add_call(p, 1, 1, [24]))
        self.leaves(program, -1, lambda p: add_jump(p, 1, [1] * 5))
        self.leaves(program, -2, lambda p: add_jump(p, 6, []))
        self.leaves(program, -1, lambda p: add_fork(p, 1, 1, 1, 2, [1]))
        self.leaves(program, -2, lambda p: add_fork(p, 1, 1, 0, 1, [1]))

    def test_without_an_open_block(self):
        program = opened()
        add_jump(program, 1, [])
        self.leaves(program, -1, lambda p: add_function(p, 5))
        self.leaves(program, -2, lambda p: add_block(p, [24]))
        self.leaves(program, -1, lambda p: add_block(p, [1] * 5))
        self.leaves(program, -3, lambda p: add_num(p, 1, 1))
        self.leaves(program, -3, lambda p: add_two(p, 1, 1, 1, 1))
        self.leaves(program, -3, lambda p: add_say(p, 1))
        self.leaves(program, -3, lambda p: add_call(p, 1, 1, []))
        self.leaves(program, -3, lambda p: add_jump(p, 2, []))
        self.leaves(program, -3, lambda p: add_fork(p, 1, 2, 2, 0, []))

    def test_full_block(self):
        program = opened()
        for at in range(8):
            add_call(program, at, 0, [])
        self.leaves(program, -5, lambda p: add_call(p, 0, 0, []))
        self.leaves(program, -1, lambda p: add_num(p, 0, 0))
        self.leaves(program, -1, lambda p: add_two(p, 0, 0, 0, 0))
        self.leaves(program, -1, lambda p: add_say(p, 0))


if __name__ == "__main__":
    unittest.main()
