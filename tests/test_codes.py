"""Points 4 and 6: what is told of the code, and of the words that it may have too."""

import unittest
from itertools import combinations

import plain
from asked import (ADD, CLEAR, CODE, DROP, FORCE, GREATEST, GROW, MAY, MOST, SAFE, START, TAKE, UNDO, WRITE, AskedTest,
                   ask, asked_behind, code_behind, forced, last)
from plain import some_codes, texts


class SafeTest(AskedTest):
    def test_no_code(self):
        for n in range(2, 11):
            self.assertEqual(last([[START, n], [SAFE]]), [1])

    def test_each_pair(self):
        for n in (2, 3, 4, 5):
            for pair in combinations(range(2 ** n), 2):
                self.assertEqual(last(forced(n, pair) + [[SAFE]]), [int(plain.safe(texts(pair, n)))], (n, pair))

    def test_codes_of_each_length(self):
        for n in range(2, 11):
            for words in some_codes(n):
                self.assertEqual(last(forced(n, words) + [[SAFE]]), [int(plain.safe(texts(words, n)))])

    def test_two_words_that_come_late_are_looked_at_too(self):
        apart = [0, 7, 56, 63]
        self.assertEqual(last(forced(6, apart) + [[SAFE]]), [1])
        self.assertEqual(last(forced(6, apart + [62]) + [[SAFE]]), [0])

    def test_behind_changes(self):
        self.assertEqual(asked_behind(forced(4, [0, 1]), [[SAFE], [DROP, 1], [SAFE], [UNDO], [SAFE], [CLEAR], [SAFE]]),
                         [[0], [1], [1], [2], [0], [2], [1]])

    def test_classes(self):
        for n in range(2, 8):
            for a in range(n + 1):
                self.assertEqual(last([[START, n], [TAKE, a], [SAFE]]), [1])


class MostTest(AskedTest):
    def assert_most(self, n, words):
        best = plain.most(texts(words, n), n)
        self.assertEqual(last(forced(n, words) + [[MOST]]), [len(best)] + plain.listed(best, 10), (n, words))

    def test_by_hand(self):
        for n, words in ((2, [1, 4]), (3, [1, 4]), (4, [1, 4, 11, 16]), (5, [1, 4, 14, 19, 29, 32])):
            self.assertEqual(last([[START, n], [MOST]]), [len(words)] + words + [0] * (10 - len(words)))

    def test_each_safe_code_of_up_to_two_words(self):
        for n in (2, 3, 4, 5):
            for many in (0, 1, 2):
                for words in combinations(range(2 ** n), many):
                    if plain.safe(texts(words, n)):
                        self.assert_most(n, words)

    def test_codes_of_each_length(self):
        for n in (2, 3, 4, 5):
            for words in some_codes(n):
                if plain.safe(texts(words, n)):
                    self.assert_most(n, words)

    def test_it_is_what_grow_makes(self):
        for n in (2, 3, 4, 5):
            for w in range(2 ** n):
                told = asked_behind([[START, n], [ADD, w]], [[MOST], [GROW], [MOST]])
                self.assertEqual(told[0], told[2])
                self.assertEqual(told[0][1:1 + told[0][0]],
                                 [v + 1 for v in code_behind([[START, n], [ADD, w], [GROW]], n)])

    def test_it_changes_nothing(self):
        for calls in ([[START, 5]], forced(5, [1]), forced(5, [1, 30]) + [[UNDO]]):
            self.assert_leaves_all(calls, [MOST])

    def test_more_than_5_letters(self):
        for n in range(6, 11):
            self.assert_refused([[START, n]], [MOST], -75)
            self.assert_refused(forced(n, [0]), [MOST], -75)
            # That is told ahead of a code that isn't safe.
            self.assert_refused(forced(n, [0, 1]), [MOST], -75)

    def test_a_code_that_is_not_safe(self):
        for n in (2, 3, 4, 5):
            self.assert_refused(forced(n, [0, 1]), [MOST], -33)
        self.assert_refused(forced(5, range(24)), [MOST], -33)
        self.assertEqual(last(forced(5, [0, 1]) + [[UNDO], [MOST]])[0], 6)


class MayTest(AskedTest):
    def test_no_code(self):
        for n in range(2, 11):
            self.assertEqual(last([[START, n], [MAY]]), [2 ** n, 1])

    def test_by_hand(self):
        # 000 leaves 011, 101, 110 and 111; 111 leaves 000 and those with one 1.
        self.assertEqual(last(forced(3, [0]) + [[MAY]]), [4, 4])
        self.assertEqual(last(forced(3, [7]) + [[MAY]]), [4, 1])

    def test_no_word_is_left(self):
        self.assertEqual(last([[START, 2], [TAKE, 0], [MAY]]), [0, 0])
        for n in (2, 3, 4, 5):
            self.assertEqual(last([[START, n], [GROW], [MAY]]), [0, 0])
        self.assertEqual(last(forced(5, range(24)) + [[MAY]]), [0, 0])
        self.assertEqual(last(forced(4, range(16)) + [[MAY]]), [0, 0])

    def test_codes_of_each_length(self):
        for n in range(2, 11):
            for words in some_codes(n):
                free = plain.may(texts(words, n), n)
                least = plain.number(free[0]) + 1 if free else 0
                self.assertEqual(last(forced(n, words) + [[MAY]]), [len(free), least], (n, words))

    def test_just_those_can_be_added(self):
        for n in (2, 3, 4, 5, 6):
            for words in some_codes(n):
                if len(words) < 24:
                    told = [last(forced(n, words) + [[ADD, w]])[0] for w in range(2 ** n)]
                    free = [w for w, answer in enumerate(told) if answer > 0]
                    self.assertEqual(last(forced(n, words) + [[MAY]]), [len(free), free[0] + 1 if free else 0])

    def test_it_changes_nothing(self):
        self.assert_leaves_all(forced(5, [1, 30]) + [[UNDO]], [MAY])


class CodeTest(AskedTest):
    def test_no_code(self):
        for n in range(2, 11):
            self.assertEqual(last([[START, n], [CODE]]), [0] * 25)

    def test_rising_each_and_1(self):
        self.assertEqual(last([[START, 4], [ADD, 15], [ADD, 0], [ADD, 3], [CODE]]), [3, 1, 4, 16] + [0] * 21)

    def test_a_code_of_24_words(self):
        self.assertEqual(last(forced(10, range(1023, 999, -1)) + [[CODE]]), [24] + list(range(1001, 1025)))
        self.assertEqual(last(forced(5, range(24)) + [[CODE]]), [24] + list(range(1, 25)))

    def test_codes_of_each_length(self):
        for n in range(2, 11):
            for words in some_codes(n):
                self.assertEqual(last(forced(n, words) + [[CODE]]), [len(words)] + plain.listed(texts(words, n), 24))
                self.assertEqual(code_behind(forced(n, words), n), sorted(words))

    def test_behind_changes(self):
        self.assertEqual(asked_behind(forced(3, [5, 2]), [[DROP, 5], [CODE], [FORCE, 1], [CODE], [TAKE, 1], [CODE],
                                                          [CLEAR], [CODE]])[1::2],
                         [[1, 3] + [0] * 23, [2, 2, 3] + [0] * 22, [2, 4, 5] + [0] * 22, [0] * 25])

    def test_it_changes_nothing(self):
        self.assert_leaves_all(forced(5, [1, 30]) + [[UNDO]], [CODE])


class WriteTest(AskedTest):
    def test_letters_as_they_stand(self):
        self.assertEqual(ask(forced(4, [13, 2]) + [[WRITE, 0], [WRITE, 1]])[-2:],
                         [[2, 0, 0, 1, 0, 0, 0, 0, 0, 0, 0], [13, 1, 1, 0, 1, 0, 0, 0, 0, 0, 0]])

    def test_fewest_and_most_letters(self):
        self.assertEqual(ask(forced(2, [3, 1]) + [[WRITE, 0], [WRITE, 1]])[-2:],
                         [[1, 0, 1, 0, 0, 0, 0, 0, 0, 0, 0], [3, 1, 1, 0, 0, 0, 0, 0, 0, 0, 0]])
        self.assertEqual(ask(forced(10, [1023, 513]) + [[WRITE, 0], [WRITE, 1]])[-2:],
                         [[513, 1, 0, 0, 0, 0, 0, 0, 0, 0, 1], [1023] + [1] * 10])

    def test_codes_of_each_length(self):
        for n in range(2, 11):
            for words in some_codes(n):
                told = asked_behind(forced(n, words), [[WRITE, k] for k in range(len(words))])
                self.assertEqual(told, [[w] + [int(x) for x in plain.spelled(w, n)] + [0] * (10 - n)
                                        for w in sorted(words)])

    def test_the_last_word_and_one_above(self):
        for n in range(2, 11):
            for words in some_codes(n):
                calls = forced(n, words)
                if words:
                    self.assertEqual(last(calls + [[WRITE, len(words) - 1]])[0], max(words))
                for k in (len(words), len(words) + 1, 24, 25, GREATEST):
                    self.assert_refused(calls, [WRITE, k], -2)

    def test_a_code_of_24_words(self):
        full = forced(10, range(24))
        self.assertEqual(last(full + [[WRITE, 23]]), [23, 0, 0, 0, 0, 0, 1, 0, 1, 1, 1])
        self.assert_refused(full, [WRITE, 24], -2)

    def test_no_code(self):
        for n in range(2, 11):
            for k in (0, 1, GREATEST):
                self.assert_refused([[START, n]], [WRITE, k], -2)
        self.assert_refused(forced(4, [0]) + [[UNDO]], [WRITE, 0], -2)

    def test_it_changes_nothing(self):
        self.assert_leaves_all(forced(5, [1, 30]) + [[UNDO]], [WRITE, 0])


if __name__ == "__main__":
    unittest.main()
