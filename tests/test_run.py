"""run and counts: what a run says, how it stands, and which calls it has made."""

import unittest

from lines import (
    GREATEST, LineTest, ask, block, call, counts, flat, fork, function, give, jump, num, run, say, two,
)

FAILED = 1
GOES_ON = 2


def given(word):
    return [0, word]


class RunLineTest(LineTest):
    def tells(self, before, asked, said, stands, made):
        """The run says these, stands so, and has made so many calls; all is as it was."""
        self.accepts(before, asked, flat(len(said), said, stands, made))
        self.leaves(before, asked)


class OperationTest(RunLineTest):
    def makes(self, o, first, second, word):
        before = [function(2), block(), two(9, o, 0, 1), give(9)]
        self.tells(before, run(0, 2, first, second), [], given(word), 0)

    def test_sum(self):
        for first, second, word in ((0, 0, 0), (2, 3, 5), (GREATEST, 0, GREATEST), (GREATEST, 1, 0),
                                    (GREATEST, GREATEST, GREATEST - 1), (1 << 31, 1 << 31, 0)):
            self.makes(0, first, second, word)

    def test_first_less_the_second(self):
        for first, second, word in ((0, 0, 0), (5, 3, 2), (3, 5, GREATEST - 1), (0, 1, GREATEST), (0, GREATEST, 1),
                                    (GREATEST, GREATEST, 0), (GREATEST, 0, GREATEST)):
            self.makes(1, first, second, word)

    def test_product(self):
        for first, second, word in ((0, 0, 0), (6, 7, 42), (GREATEST, 0, 0), (GREATEST, 1, GREATEST),
                                    (GREATEST, GREATEST, 1), (65536, 65536, 0), (65537, 65536, 65536)):
            self.makes(2, first, second, word)

    def test_bit_by_bit(self):
        for first, second in ((0, 0), (12, 10), (GREATEST, 0), (GREATEST, GREATEST), (0x0F0F0F0F, 0x00FF00FF)):
            self.makes(3, first, second, first & second)
            self.makes(4, first, second, first | second)
            self.makes(5, first, second, first ^ second)
        self.makes(3, 12, 10, 8)
        self.makes(4, 12, 10, 14)
        self.makes(5, 12, 10, 6)

    def test_times_two_to_the_s(self):
        for first, second, word in ((5, 0, 5), (5, 1, 10), (1, 31, 1 << 31), (3, 31, 1 << 31), (2, 31, 0), (5, 32, 5),
                                    (5, 33, 10), (5, 63, 1 << 31), (5, 64, 5), (GREATEST, 0, GREATEST),
                                    (GREATEST, 1, GREATEST - 1), (GREATEST, 31, 1 << 31), (3, GREATEST, 1 << 31),
                                    (0, 31, 0), (GREATEST, 32, GREATEST)):
            self.makes(6, first, second, word)

    def test_divided_by_two_to_the_s(self):
        for first, second, word in ((5, 0, 5), (5, 1, 2), (5, 2, 1), (5, 3, 0), (1 << 31, 31, 1), (GREATEST, 31, 1),
                                    (5, 32, 5), (5, 33, 2), (GREATEST, 0, GREATEST), (GREATEST, 1, GREATEST // 2),
                                    (GREATEST, 32, GREATEST), (GREATEST, GREATEST, 1), (0, 31, 0)):
            self.makes(7, first, second, word)

    def test_less(self):
        for first, second, word in ((0, 0, 0), (0, 1, 1), (1, 0, 0), (GREATEST, GREATEST, 0), (0, GREATEST, 1),
                                    (GREATEST, 0, 0), (GREATEST - 1, GREATEST, 1), (1 << 31, 1, 0)):
            self.makes(8, first, second, word)

    def test_same(self):
        for first, second, word in ((0, 0, 1), (0, 1, 0), (1, 0, 0), (GREATEST, GREATEST, 1), (0, GREATEST, 0)):
            self.makes(9, first, second, word)

    def test_quotient(self):
        for first, second, word in ((0, 1, 0), (7, 2, 3), (6, 2, 3), (5, 6, 0), (GREATEST, 1, GREATEST),
                                    (GREATEST, GREATEST, 1), (GREATEST, 2, GREATEST // 2), (0, GREATEST, 0)):
            self.makes(10, first, second, word)

    def test_a_name_may_be_of_both_words_and_get_theirs(self):
        self.tells([function(1), block(), two(0, 0, 0, 0), two(0, 2, 0, 0), say(0), give(0)],
                   run(0, 4, 3), [36], given(36), 0)


class FailTest(RunLineTest):
    BEFORE = [function(2), block(), say(0), say(1), two(0, 10, 0, 1), say(0), give(0)]

    def test_a_quotient_by_0(self):
        self.tells(self.BEFORE, run(0, 1000, 7, 0), [7, 0], FAILED, 0)
        self.tells(self.BEFORE, run(0, 1000, 0, 0), [0, 0], FAILED, 0)
        self.tells(self.BEFORE, run(0, 1000, 7, 2), [7, 2, 3], given(3), 0)

    def test_no_other_operation_fails(self):
        for o in range(10):
            self.assertEqual(ask(function(0), block(), two(0, o, 1, 2), give(0), run(0, 2))[-1][1], 0)

    def test_it_fails_in_the_step_that_does_the_row(self):
        self.tells(self.BEFORE, run(0, 3, 7, 0), [7, 0], FAILED, 0)
        self.tells(self.BEFORE, run(0, 2, 7, 0), [7, 0], GOES_ON, 0)

    def test_the_whole_run_fails_within_calls(self):
        before = self.BEFORE + [
            function(1), block(), say(0), call(0, 0, 0, 1), say(0), give(0),
            function(0), block(), num(3, 8), call(3, 1, 3), say(3), give(3),
        ]
        self.tells(before, run(2, 1000), [8, 8, 0], FAILED, 2)
        self.accepts(before, counts(2, 1000), flat(2, [1, 0, 1, 1], [2, 0, 1, 1]))


class NamesTest(RunLineTest):
    def test_words_are_handed_in_order(self):
        before = [function(4), block(), say(3), say(0), say(2), say(1), give(2)]
        self.tells(before, run(0, 9, 10, 11, GREATEST, 13), [13, 10, GREATEST, 11], given(GREATEST), 0)

    def test_all_other_names_are_0(self):
        before = [function(1), block(), say(1), say(23), two(2, 9, 1, 23), say(2), give(7)]
        self.tells(before, run(0, 9, 5), [0, 0, 1], given(0), 0)

    def test_number_rows(self):
        before = [function(1), block(), num(0, GREATEST), num(5, 0), num(6, 1), num(6, 2), say(0), say(5), give(6)]
        self.tells(before, run(0, 9, 5), [GREATEST, 0], given(2), 0)

    def test_each_call_has_names_of_its_own(self):
        before = [function(1), block(), say(0), say(1), num(1, 9), num(0, 8), give(2),
                  function(0), block(), num(0, 1), num(1, 2), call(2, 0, 1), call(3, 0, 0),
                  say(0), say(1), say(2), give(3)]
        self.tells(before, run(1, 1000), [2, 0, 1, 0, 1, 2, 0], given(0), 2)

    def test_words_of_a_call_are_handed_in_order(self):
        before = [function(3), block(), say(0), say(1), say(2), give(1),
                  function(2), block(), call(0, 0, 1, 0, 1), say(0), give(1)]
        self.tells(before, run(1, 1000, 4, 5), [5, 4, 5, 4], given(5), 1)

    def test_what_gets_the_given_word_is_the_callers_name(self):
        before = [function(1), block(), num(5, 77), give(5),
                  function(1), block(), call(0, 0, 0), say(0), say(5), call(3, 0, 0), say(3), give(0)]
        self.tells(before, run(1, 1000, 4), [77, 0, 77], given(77), 2)


class EndTest(RunLineTest):
    def test_fork(self):
        before = [function(1), block(), fork(0, 1, 2, 0), block(), num(1, 5), give(1), block(), num(1, 6), give(1)]
        self.tells(before, run(0, 9, 0), [], given(6), 0)
        for word in (1, 2, GREATEST):
            self.tells(before, run(0, 9, word), [], given(5), 0)

    def test_each_way_of_a_fork_hands_over_its_own(self):
        before = [function(3), block(), fork(0, 1, 2, 1, 1, 2, 1), block(5), say(5), say(6), give(5),
                  block(5, 6), say(5), say(6), give(6)]
        self.tells(before, run(0, 9, 1, 7, 8), [7, 0], given(7), 0)
        self.tells(before, run(0, 9, 0, 7, 8), [8, 7], given(7), 0)

    def test_two_names_change_places(self):
        before = [function(2), block(), jump(1, 1, 0), block(0, 1), say(0), say(1), jump(2, 1, 0),
                  block(0, 1), say(0), say(1), give(0)]
        self.tells(before, run(0, 9, 7, 8), [8, 7, 7, 8], given(7), 0)

    def test_four_names_go_round(self):
        for end in (jump(1, 1, 2, 3, 0), fork(0, 1, 2, 4, 1, 2, 3, 0), fork(9, 2, 1, 0, 1, 2, 3, 0)):
            before = [function(4), block(), end, block(0, 1, 2, 3), say(0), say(1), say(2), say(3), give(0),
                      block(), give(0)]
            self.tells(before, run(0, 9, 5, 6, 7, 8), [6, 7, 8, 5], given(6), 0)

    def test_a_name_twice_among_those_taken_over_has_the_last_word(self):
        before = [function(3), block(), jump(1, 0, 1, 2), block(4, 5, 4), say(4), say(5), give(4)]
        self.tells(before, run(0, 9, 7, 8, 9), [9, 8], given(9), 0)
        before = [function(4), block(), jump(1, 3, 2, 1, 0), block(1, 1, 1, 1), say(1), say(3), give(0)]
        self.tells(before, run(0, 9, 6, 7, 8, 9), [6, 9], given(6), 0)

    def test_no_other_name_changes(self):
        before = [function(2), block(), num(3, 5), jump(1, 1), block(0), say(0), say(1), say(3), give(3)]
        self.tells(before, run(0, 9, 7, 8), [8, 8, 5], given(5), 0)

    def test_a_block_come_to_again_keeps_its_names(self):
        before = [function(1), block(), num(2, 1), jump(1), block(), two(3, 0, 3, 0), two(0, 1, 0, 2), fork(0, 1, 2, 0),
                  block(), give(3)]
        self.tells(before, run(0, 1000, 4), [], given(10), 0)


class StepsTest(RunLineTest):
    ENDLESS = [function(1), block(), say(0), call(0, 0, 0), give(0)]

    def test_over_just_at_the_last_step(self):
        before = [function(0), block(), num(0, 3), say(0), jump(1), block(), fork(0, 2, 2, 0), block(), give(0)]
        self.tells(before, run(0, 5), [3], given(3), 0)
        self.tells(before, run(0, 6), [3], given(3), 0)
        self.tells(before, run(0, 1000), [3], given(3), 0)
        self.tells(before, run(0, 4), [3], GOES_ON, 0)
        self.tells(before, run(0, 2), [3], GOES_ON, 0)
        self.tells(before, run(0, 1), [], GOES_ON, 0)
        self.tells(before, run(0, 0), [], GOES_ON, 0)

    def test_only_an_end(self):
        before = [function(1), block(), give(0)]
        self.tells(before, run(0, 0, 7), [], GOES_ON, 0)
        self.tells(before, run(0, 1, 7), [], given(7), 0)

    def test_a_call_is_a_step_when_it_begins_and_none_when_it_is_over(self):
        # Steps: say, call, say, give, say, give.
        before = [function(0), block(), say(0), give(0), function(0), block(), say(0), call(1, 0), say(1), give(1)]
        for n, said, stands, made in ((0, 0, GOES_ON, 0), (1, 1, GOES_ON, 0), (2, 1, GOES_ON, 1), (3, 2, GOES_ON, 1),
                                      (4, 2, GOES_ON, 1), (5, 3, GOES_ON, 1), (6, 3, given(0), 1), (7, 3, given(0), 1)):
            self.tells(before, run(1, n), [0] * said, stands, made)

    def test_a_function_that_calls_itself_until_the_steps_end(self):
        self.tells(self.ENDLESS, run(0, 0, 7), [], GOES_ON, 0)
        self.tells(self.ENDLESS, run(0, 1, 7), [7], GOES_ON, 0)
        self.tells(self.ENDLESS, run(0, 2, 7), [7], GOES_ON, 1)
        self.tells(self.ENDLESS, run(0, 999, 7), [7] * 500, GOES_ON, 499)
        self.tells(self.ENDLESS, run(0, 1000, 7), [7] * 500, GOES_ON, 500)
        self.refuses(self.ENDLESS, run(0, 1001, 7), -1)

    def test_a_thousand_calls_within_one_another(self):
        before = [function(0), block(), call(0, 0), give(0)]
        for n in (0, 1, 999, 1000):
            self.tells(before, run(0, n), [], GOES_ON, n)
        self.refuses(before, run(0, 1001), -1)

    def test_calls_within_one_another_come_back(self):
        # Adds up the words from the one handed down to 0: each but the last takes 6 steps, the last 2.
        before = [function(1), block(), fork(0, 1, 2, 0),
                  block(), num(1, 1), two(1, 1, 0, 1), call(1, 0, 1), two(1, 0, 1, 0), give(1), block(), give(0)]
        self.tells(before, run(0, 6 * 166 + 2, 166), [], given(166 * 167 // 2), 166)
        self.tells(before, run(0, 6 * 166 + 1, 166), [], GOES_ON, 166)
        self.tells(before, run(0, 2, 0), [], given(0), 0)

    def test_functions_that_call_one_another(self):
        before = [function(1), block(), say(0), call(1, 1, 0), give(1), function(1), block(), two(0, 0, 0, 0),
                  call(1, 0, 0), give(1)]
        self.tells(before, run(0, 12, 1), [1, 2, 4], GOES_ON, 6)
        self.tells(before, run(1, 12, 1), [2, 4, 8], GOES_ON, 6)


class CountsTest(LineTest):
    LOOP = [function(1), block(), give(0),
            function(1), block(), num(1, 1), call(2, 0, 0), fork(0, 1, 2, 0),
            block(), two(0, 1, 0, 1), call(2, 0, 0), call(2, 2), fork(0, 1, 3, 0),
            block(), call(2, 1, 2), jump(3), block(), give(2),
            function(0), block(), call(0, 0, 1), give(0)]

    def told(self, before, asked, *calls):
        self.accepts(before, asked, flat(len(calls), calls))
        self.leaves(before, asked)

    def test_no_calls(self):
        self.told([function(0), block(), give(0)], counts(0, 9))

    def test_calls_made_many_times_and_never(self):
        self.told(self.LOOP, counts(1, 1000, 5), [1, 0, 1, 1], [1, 1, 1, 5], [1, 1, 2, 5], [1, 2, 0, 0], [2, 0, 0, 5])
        self.told(self.LOOP, counts(0, 1000, 5), [1, 0, 1, 0], [1, 1, 1, 0], [1, 1, 2, 0], [1, 2, 0, 0], [2, 0, 0, 0])
        self.told(self.LOOP, counts(2, 1000), [1, 0, 1, 0], [1, 1, 1, 0], [1, 1, 2, 0], [1, 2, 0, 0], [2, 0, 0, 1])

    def test_together_they_are_as_many_as_run_tells(self):
        for n in range(60):
            ran, counted = ask(*self.LOOP, run(1, n, 5), counts(1, n, 5))[-2:]
            self.assertEqual(ran[-1], sum(counted[4::4]))

    def test_a_call_counts_from_its_beginning_on(self):
        before = [function(0), block(), num(0), call(0, 0), give(0)]
        for n in (0, 1, 2, 3, 4, 999, 1000):
            self.told(before, counts(0, n), [0, 0, 1, n // 2])

    def test_eight_calls_in_their_order(self):
        before = [function(0), block(), call(0, 1), num(0), call(0, 1), jump(1), block(), num(0), call(0, 1), give(0),
                  function(0), block(), give(0), block(), call(0, 0), give(0),
                  function(0), block(), call(0, 0), call(0, 1), jump(1), block(), call(0, 2), call(0, 1), give(0)]
        # Function 2's first call takes 11 steps, its second 2, its jump 1; then it calls itself.
        for n, within_itself in ((14, 0), (15, 1)):
            self.accepts(before, counts(2, n), flat(
                8, [0, 0, 0, 1], [0, 0, 2, 1], [0, 1, 1, 1], [1, 1, 0, 0],
                [2, 0, 0, 1], [2, 0, 1, 1], [2, 1, 0, within_itself], [2, 1, 1, 0]))


if __name__ == "__main__":
    unittest.main()
