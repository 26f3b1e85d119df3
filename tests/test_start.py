"""Point 1: ll_start, words that aren't there, and how words are told in lists."""

import unittest

from asked import (ADD, ALIKE, CLASS, CLEAR, CODE, COMMON, DROP, FORCE, GAINED, GAINING, GREATEST, GROW, LARGEST,
                   LOSING, LOST, MAY, MOST, RUNS, SAFE, START, STATE, TAKE, WEIGHT, ask, code_behind, last)


class StartTest(unittest.TestCase):
    def test_takes_two_to_ten_letters(self):
        for n in range(2, 11):
            self.assertEqual(ask([[START, n]]), [[0]])

    def test_refuses_other_lengths(self):
        for n in (0, 1, 11, 12, 32, 2147483648, GREATEST):
            self.assertEqual(ask([[START, n]]), [[-22]])

    def test_refused_ones_may_stand_ahead_of_the_first(self):
        self.assertEqual(ask([[START, 1], [START, 11], [START, GREATEST], [START, 3], [RUNS, 5]]),
                         [[-22], [-22], [-22], [0], [3]])

    def test_words_have_n_letters(self):
        for n in range(2, 11):
            self.assertEqual(last([[START, n], [RUNS, 2 ** n - 1]]), [1])
            self.assertEqual(last([[START, n], [RUNS, 2 ** n]]), [-2])

    def test_there_is_no_code_at_first(self):
        for n in range(2, 11):
            self.assertEqual(last([[START, n], [CLEAR]]), [-17])
            self.assertEqual(code_behind([[START, n]], n), [])

    def test_a_second_start_puts_all_back_to_the_beginning(self):
        calls = [[START, 4], [ADD, 0], [ADD, 15], [START, 4]]
        self.assertEqual(code_behind(calls, 4), [])
        self.assertEqual(last(calls + [[CLEAR]]), [-17])
        self.assertEqual(last([[START, 4], [START, 7], [LARGEST]]), [0, 16])

    def test_a_refused_second_start_leaves_all_as_it_was(self):
        for n in (0, 1, 11, GREATEST):
            calls = [[START, 4], [ADD, 0], [ADD, 15], [START, n]]
            self.assertEqual(last(calls), [-22])
            self.assertEqual(code_behind(calls, 4), [0, 15])
            self.assertEqual(ask(calls + [[RUNS, 15], [RUNS, 16]])[-2:], [[1], [-2]])


class NoWordTest(unittest.TestCase):
    def calls_with(self, w):
        return [[ADD, w], [FORCE, w], [DROP, w], [LOST, w], [GAINED, w], [LOSING, w, 0], [GAINING, w, 0, 0],
                [RUNS, w], [WEIGHT, w], [ALIKE, w, 0], [ALIKE, 0, w], [COMMON, w, 0], [COMMON, 0, w]]

    def test_the_greatest_word_is_there(self):
        for n in range(2, 11):
            for call in self.calls_with(2 ** n - 1):
                self.assertNotEqual(last([[START, n], call]), [-2], call)

    def test_those_above_are_not(self):
        for n in range(2, 11):
            for w in (2 ** n, 2 ** n + 1, 2 ** (n + 1), 2147483648, GREATEST):
                for call in self.calls_with(w):
                    self.assertEqual(last([[START, n], call]), [-2], call)

    def test_it_is_looked_at_first(self):
        full = [[START, 6]] + [[FORCE, w] for w in range(24)]
        for w in (64, GREATEST):
            for call in ([ADD, w], [FORCE, w], [DROP, w], [LOSING, w, 6], [LOSING, w, GREATEST], [GAINING, w, 7, 2],
                         [GAINING, w, GREATEST, GREATEST]):
                self.assertEqual(last(full + [call]), [-2], call)

    def test_calls_that_name_no_word_never_answer_it(self):
        for call in ([TAKE, GREATEST], [CLASS, GREATEST], [GROW], [CLEAR], [LARGEST], [SAFE], [MOST], [MAY], [CODE],
                     [STATE]):
            self.assertNotEqual(last([[START, 2], call]), [-2], call)


class ToldTest(unittest.TestCase):
    def test_rising_each_and_1_with_0_behind_the_last(self):
        # 0110 loses a letter to 110, 010 and 011.
        self.assertEqual(last([[START, 4], [LOST, 6]]), [3, 3, 4, 7, 0, 0, 0, 0, 0, 0, 0])
        # 10 becomes 010, 100, 101 and 110.
        self.assertEqual(last([[START, 2], [GAINED, 2]]), [4, 3, 5, 6, 7, 0, 0, 0, 0, 0, 0, 0, 0])

    def test_the_word_0_is_told_as_1(self):
        self.assertEqual(last([[START, 10], [LOST, 0]]), [1, 1] + [0] * 9)

    def test_a_full_list_has_no_0(self):
        told = last([[START, 10], [LOST, 0b0101010101]])
        self.assertEqual(told[0], 10)
        self.assertNotIn(0, told)


if __name__ == "__main__":
    unittest.main()
