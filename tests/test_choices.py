"""choose, runchosen and whole: which calls are put in, and what the program with them is and does."""

import unittest

from lines import (
    GREATEST, LineTest, ask, block, call, choose, counts, flat, fork, function, give, jump, num, run, runchosen, say,
    shows, two, whole,
)

# Put in, a call makes its function larger by the called one's size, how many names that has, and 1.
# Of this one the size is 1, it has 1 name: a call of it put in makes 3 more.
SMALL = [function(0), block(), give(0)]
# Of this one the size is 4, it has 1 name: a call of it put in makes 6 more, as much as two of SMALL.
TWICE_AS_LARGE = [function(0), block(), say(0), say(0), say(0), give(0)]


class ChoiceTest(LineTest):
    def chooses(self, before, asked, spared, size, *places):
        self.accepts(before, asked, flat(spared, size, len(places), places))
        self.leaves(before, asked)

    def stays(self, before, size, f, n, *words):
        """With this size no call is put in: the program is shown as it is, and runs as it does."""
        shown, ran, made, ran_chosen = ask(
            *before, shows(), run(f, n, *words), whole(size, f, n, *words), runchosen(size, f, n, *words))[-4:]
        self.assertEqual(made + [0], shown)
        self.assertEqual(ran_chosen, ran)


class NoneTest(ChoiceTest):
    def test_no_calls(self):
        before = [function(1), block(), say(0), jump(1, 0), block(2), give(2), *SMALL]
        for size in (5, 6, GREATEST):
            self.chooses(before, choose(size, 0, 9, 5), 0, 5)
            self.stays(before, size, 0, 9, 5)
        for asked in (choose, runchosen, whole):
            self.refuses(before, asked(4, 0, 9, 5), -8)

    def test_calls_of_the_function_itself_and_of_greater_ones_may_not(self):
        before = [function(0), block(), call(0, 0), give(0),
                  function(0), block(), call(0, 2), call(0, 1), give(0), *SMALL]
        for f in (0, 1):
            self.chooses(before, choose(GREATEST, f, 100), 0, 6)
            self.stays(before, GREATEST, f, 100)

    def test_calls_that_were_not_made_are_not_put_in(self):
        before = SMALL + [function(1), block(), fork(0, 1, 2, 0),
                          block(), call(1, 0), give(1), block(), call(1, 0), give(1)]
        self.chooses(before, choose(GREATEST, 1, 9, 1), 1, 9, [1, 1, 0])
        self.chooses(before, choose(GREATEST, 1, 9, 0), 1, 9, [1, 2, 0])
        self.chooses(before, choose(GREATEST, 1, 1, 0), 0, 6)
        self.chooses(before, choose(GREATEST, 1, 0, 0), 0, 6)
        self.chooses(before, choose(GREATEST, 0, 9), 0, 6)
        self.stays(before, GREATEST, 0, 9)


class SizeTest(ChoiceTest):
    BEFORE = [function(1), block(), two(3, 0, 0, 0), say(3), jump(1, 3), block(5), give(5),
              function(0), block(), num(0, 4), call(1, 0, 0), say(1), give(1)]

    def test_just_enough_and_one_less(self):
        # The sizes are 5 and 4; names 0, 3 and 5 are function 0's.
        self.chooses(self.BEFORE, choose(9 + 5 + 3 + 1, 1, 99), 1, 18, [1, 0, 1])
        self.chooses(self.BEFORE, choose(9 + 5 + 3, 1, 99), 0, 9)
        self.chooses(self.BEFORE, choose(9, 1, 99), 0, 9)
        self.chooses(self.BEFORE, choose(GREATEST, 1, 99), 1, 18, [1, 0, 1])

    def test_own_size_less_1(self):
        for asked in (choose, runchosen, whole):
            self.refuses(self.BEFORE, asked(8, 1, 99), -8)

    def test_whole(self):
        made = [2, [1, 2, [0, 2, [2, 3, 0, 0, 0], [3, 3], [0, 1, 1, 3]], [1, 5, 0, [2, 5]]],
                [0, 4, [0, 1, [0, 0, 4], [0, 1, 1, 0]],
                 [1, 2, 4, [0, 5, 0], [0, 7, 0], [2, 5, 0, 2, 2], [3, 5], [0, 2, 1, 5]],
                 [1, 7, 0, [0, 3, 1, 7]],
                 [1, 1, 1, [3, 1], [2, 1]]]]
        for size in (18, 19, GREATEST):
            self.accepts(self.BEFORE, whole(size, 1, 99), flat(made))
            self.leaves(self.BEFORE, whole(size, 1, 99))
        self.stays(self.BEFORE, 17, 1, 99)
        self.stays(self.BEFORE, 9, 1, 99)

    def test_runchosen(self):
        self.accepts(self.BEFORE, run(1, 99), [2, 8, 8, 0, 8, 1])
        self.accepts(self.BEFORE, runchosen(18, 1, 99), [2, 8, 8, 0, 8, 0])
        self.leaves(self.BEFORE, runchosen(18, 1, 99))
        self.accepts(self.BEFORE, runchosen(17, 1, 99), [2, 8, 8, 0, 8, 1])

    def test_runchosen_does_the_steps_of_what_is_made(self):
        # As it is: num, call, two, say, jump, give, say, give. Put in: num, jump, two numbers, two, say, jumps, ...
        self.accepts(self.BEFORE, run(1, 8), [2, 8, 8, 0, 8, 1])
        self.accepts(self.BEFORE, run(1, 7), [2, 8, 8, 2, 1])
        self.accepts(self.BEFORE, runchosen(18, 1, 10), [2, 8, 8, 0, 8, 0])
        self.accepts(self.BEFORE, runchosen(18, 1, 9), [2, 8, 8, 2, 0])
        self.accepts(self.BEFORE, runchosen(18, 1, 6), [1, 8, 2, 0])
        self.accepts(self.BEFORE, runchosen(18, 1, 5), [0, 2, 0])
        self.accepts(self.BEFORE, run(1, 5), [1, 8, 2, 1])

    def test_a_call_that_the_steps_do_not_come_to(self):
        self.chooses(self.BEFORE, choose(18, 1, 1), 0, 9)
        self.accepts(self.BEFORE, runchosen(18, 1, 1), [0, 2, 0])
        self.chooses(self.BEFORE, choose(18, 1, 2), 1, 18, [1, 0, 1])
        self.accepts(self.BEFORE, runchosen(18, 1, 2), [0, 2, 0])
        self.stays(self.BEFORE, 18, 1, 1)

    def test_most_spared_goes_ahead_of_least_size(self):
        before = SMALL + TWICE_AS_LARGE + [
            function(0), block(), num(1, 1), num(0, 3), call(2, 0), jump(1),
            block(), call(2, 1), two(0, 1, 0, 1), fork(0, 1, 2, 0), block(), give(2)]
        self.chooses(before, choose(13 + 9, 2, 99), 4, 22, [2, 0, 2], [2, 1, 0])
        for size in (13 + 6, 13 + 7, 13 + 8):
            self.chooses(before, choose(size, 2, 99), 3, 19, [2, 1, 0])
        for size in (13 + 3, 13 + 5):
            self.chooses(before, choose(size, 2, 99), 1, 16, [2, 0, 2])
        self.chooses(before, choose(13 + 2, 2, 99), 0, 13)


class SeveralTest(ChoiceTest):
    """Function 2 is handed 2: what stands in its block 1 is done twice. Its size is 8 without its calls, 11 with 3."""

    def last_function(self, ahead, within, behind):
        return [function(1), block(), num(1, 1), *ahead, jump(1),
                block(), *within, two(0, 1, 0, 1), fork(0, 1, 2, 0), block(), *behind, give(0)]

    def test_as_many_spared_and_other_sizes(self):
        for first, second, place in ((0, 1, [2, 0, 1]), (1, 0, [2, 0, 2])):
            before = SMALL + TWICE_AS_LARGE + self.last_function([call(2, first), call(2, second)], [], [])
            for size in (12 + 3, 12 + 6, 12 + 8):
                self.chooses(before, choose(size, 2, 99, 2), 1, 15, place)
            self.chooses(before, choose(12 + 9, 2, 99, 2), 2, 21, [2, 0, 1], [2, 0, 2])

    def test_as_many_spared_of_the_same_size_has_the_first_call(self):
        before = SMALL + TWICE_AS_LARGE + self.last_function([call(2, 0)], [], [call(2, 0), call(2, 0)])
        self.chooses(before, choose(13 + 3, 2, 99, 2), 1, 16, [2, 0, 1])
        self.chooses(before, choose(13 + 6, 2, 99, 2), 2, 19, [2, 0, 1], [2, 2, 0])
        self.chooses(before, choose(13 + 9, 2, 99, 2), 3, 22, [2, 0, 1], [2, 2, 0], [2, 2, 1])

    def test_two_calls_against_one(self):
        # The two of SMALL are made once each, the one of TWICE_AS_LARGE twice.
        one = call(2, 0)
        other = call(2, 1)
        for ahead, behind, places in (([], [one, one], [[2, 1, 0]]),
                                      ([one, one], [], [[2, 0, 1], [2, 0, 2]]),
                                      ([one], [one], [[2, 0, 1], [2, 2, 0]])):
            before = SMALL + TWICE_AS_LARGE + self.last_function(ahead, [other], behind)
            self.chooses(before, choose(13 + 6, 2, 99, 2), 2, 19, *places)
            self.chooses(before, choose(13 + 8, 2, 99, 2), 2, 19, *places)

    def test_first_call_that_is_not_in_both(self):
        # In both is the first call; of the others, two of SMALL stand against one of TWICE_AS_LARGE.
        before = SMALL + TWICE_AS_LARGE + [
            function(1), block(), num(1, 1), jump(1),
            block(), call(2, 0), call(2, 1), two(0, 1, 0, 1), fork(0, 1, 2, 0),
            block(), call(2, 0), call(2, 0), give(0)]
        self.chooses(before, choose(14 + 9, 2, 99, 2), 4, 23, [2, 1, 0], [2, 1, 1])
        self.chooses(before, choose(14 + 6, 2, 99, 2), 3, 20, [2, 1, 0], [2, 2, 0])

    def test_calls_in_several_functions(self):
        before = SMALL + [function(0), block(), call(1, 0), give(1),
                          function(0), block(), call(1, 0), call(1, 0), give(1)]
        # Function 1 is not called: what is spared is in function 2.
        self.chooses(before, choose(GREATEST, 2, 99), 2, 12, [2, 0, 0], [2, 0, 1])
        self.chooses(before, choose(GREATEST, 1, 99), 1, 9, [1, 0, 0])


class MadeTest(ChoiceTest):
    THREE_DEEP = [function(1), block(), say(0), give(0),
                  function(1), block(), call(1, 0, 0), call(2, 0, 1), give(2),
                  function(1), block(), num(1, 7), call(2, 1, 1), call(3, 1, 0), give(3)]

    def test_two_calls_in_one_block(self):
        before = [function(1), block(), say(0), give(0), function(2), block(), call(2, 0, 0), call(3, 0, 1), give(2)]
        self.chooses(before, choose(GREATEST, 1, 99, 5, 6), 2, 13, [1, 0, 0], [1, 0, 1])
        # The last one goes first: its copy has block 1 and name 4, what stood behind it block 2.
        self.accepts(before, whole(GREATEST, 1, 99, 5, 6), flat(
            2, [1, 1, [0, 1, [3, 0], [2, 0]]],
            [2, 5, [0, 0, [0, 3, 1, 0]],
             [1, 4, 1, [3, 4], [0, 2, 1, 4]],
             [1, 3, 0, [2, 2]],
             [1, 5, 1, [3, 5], [0, 4, 1, 5]],
             [1, 2, 0, [0, 1, 1, 1]]]))
        self.accepts(before, runchosen(GREATEST, 1, 99, 5, 6), [2, 5, 6, 0, 5, 0])
        # Only one of them: the first, then the second's call stands in the block behind.
        self.accepts(before, whole(12, 1, 99, 5, 6), flat(
            2, [1, 1, [0, 1, [3, 0], [2, 0]]],
            [2, 3, [0, 0, [0, 1, 1, 0]], [1, 4, 1, [3, 4], [0, 2, 1, 4]], [1, 2, 1, [4, 3, 0, 1, 1], [2, 2]]]))

    def test_calls_in_two_blocks(self):
        before = [function(0), block(), give(0),
                  function(0), block(), call(0, 0), jump(1), block(), call(0, 0), give(0)]
        self.accepts(before, whole(GREATEST, 1, 99), flat(
            2, [0, 1, [0, 0, [2, 0]]],
            [0, 6, [0, 0, [0, 4, 0]], [0, 0, [0, 2, 0]],
             [0, 1, [0, 1, 0], [0, 3, 1, 1]], [1, 0, 0, [2, 0]],
             [0, 1, [0, 2, 0], [0, 5, 1, 2]], [1, 0, 0, [0, 1, 0]]]))

    def test_three_functions_deep(self):
        before = self.THREE_DEEP
        # The sizes are 2, 3 and 4; put in twice, function 0 makes 4 more each time and 1 gets 2 names more in all.
        size_1 = 3 + 2 * (2 + 1 + 1)
        names_1 = 3 + 2
        size_2 = 4 + 2 * (size_1 + names_1 + 1)
        self.chooses(before, choose(GREATEST, 2, 999, 9), 6, 2 + size_1 + size_2,
                     [1, 0, 0], [1, 0, 1], [2, 0, 1], [2, 0, 2])
        self.accepts(before, run(2, 999, 9), [4, 7, 7, 9, 9, 0, 9, 6])
        self.accepts(before, runchosen(GREATEST, 2, 999, 9), [4, 7, 7, 9, 9, 0, 9, 0])
        self.chooses(before, choose(2 + size_1 + size_2 - 1, 2, 999, 9), 5, 2 + size_1 + 4 + size_1 + names_1 + 1,
                     [1, 0, 0], [1, 0, 1], [2, 0, 1])

    def test_what_is_put_in_is_as_it_is_made_by_then(self):
        before = [function(0), block(), give(0), function(0), block(), call(0, 0), give(0),
                  function(0), block(), call(0, 1), give(0)]
        one = [0, 3, [0, 0, [0, 1, 0]], [0, 1, [0, 1, 0], [0, 2, 1, 1]], [1, 0, 0, [2, 0]]]
        other = [0, 5, [0, 0, [0, 1, 0]],
                 [0, 2, [0, 1, 0], [0, 2, 0], [0, 2, 0]], [0, 1, [0, 2, 0], [0, 3, 1, 2]], [1, 1, 0, [0, 4, 1, 1]],
                 [1, 0, 0, [2, 0]]]
        self.accepts(before, whole(GREATEST, 2, 99), flat(3, [0, 1, [0, 0, [2, 0]]], one, other))

    def test_a_call_left_in_what_is_put_in_is_still_made(self):
        before = self.THREE_DEEP
        # As much as function 1's two calls: they are made twice each.
        size = 9 + 8
        self.chooses(before, choose(size, 2, 999, 9), 4, 17, [1, 0, 0], [1, 0, 1])
        self.accepts(before, runchosen(size, 2, 999, 9), [4, 7, 7, 9, 9, 0, 9, 2])

    def test_functions_that_call_themselves(self):
        # Function 1 adds up the words from its own down to 0, and adds them by function 0.
        before = [function(2), block(), two(0, 0, 0, 1), give(0),
                  function(1), block(), fork(0, 1, 2, 0), block(), num(1, 1), two(1, 1, 0, 1), call(1, 1, 1),
                  call(1, 0, 1, 0), give(1), block(), give(0),
                  function(1), block(), call(0, 1, 0), say(0), give(0)]
        self.accepts(before, run(2, 1000, 9), [1, 45, 0, 45, 19])
        self.accepts(before, counts(2, 1000, 9), flat(3, [1, 1, 2, 9], [1, 1, 3, 9], [2, 0, 0, 1]))
        size_1 = 7 + 2 + 2 + 1
        self.chooses(before, choose(GREATEST, 2, 1000, 9), 10, 2 + size_1 + 3 + size_1 + 4 + 1, [1, 1, 3], [2, 0, 0])
        self.accepts(before, runchosen(GREATEST, 2, 1000, 9), [1, 45, 0, 45, 9])
        self.chooses(before, choose(12 + 5, 2, 1000, 9), 9, 17, [1, 1, 3])
        self.accepts(before, runchosen(17, 2, 1000, 9), [1, 45, 0, 45, 10])

    def test_names_are_0_again_each_time(self):
        # Function 0 says its name 1 ahead of giving it a word.
        before = [function(0), block(), say(1), num(1, 8), give(1),
                  function(1), block(), num(1, 1), jump(1),
                  block(), call(2, 0), two(0, 1, 0, 1), fork(0, 1, 2, 0), block(), give(2)]
        self.accepts(before, run(1, 99, 3), [3, 0, 0, 0, 0, 8, 3])
        self.accepts(before, runchosen(GREATEST, 1, 99, 3), [3, 0, 0, 0, 0, 8, 0])

    def test_a_run_that_fails(self):
        before = [function(2), block(), say(0), two(0, 10, 0, 1), give(0),
                  function(2), block(), call(2, 0, 0, 1), say(2), give(2)]
        self.accepts(before, runchosen(GREATEST, 1, 99, 8, 2), [2, 8, 4, 0, 4, 0])
        self.accepts(before, run(1, 99, 8, 0), [1, 8, 1, 1])
        self.chooses(before, choose(GREATEST, 1, 99, 8, 0), 1, 12, [1, 0, 0])
        self.accepts(before, runchosen(GREATEST, 1, 99, 8, 0), [1, 8, 1, 0])

    def test_eight_calls(self):
        before = SMALL + [function(0), block(), *[call(at, 0) for at in range(8)], give(7)]
        places = [[1, 0, at] for at in range(8)]
        self.chooses(before, choose(10 + 24, 1, 99), 8, 34, *places)
        for many in range(8):
            self.chooses(before, choose(10 + 3 * many + 2, 1, 99), many, 10 + 3 * many, *places[:many])
        self.accepts(before, runchosen(34, 1, 99), [0, 0, 0, 0])


if __name__ == "__main__":
    unittest.main()
